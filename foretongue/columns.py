"""The column rows of whole sheets, and which places are akin by them."""

from foretongue.sheets import need_whole

NOTHING_LEFT = "-"


def columns_of(sheet):
    """The list of the column rows of all places of a whole sheet."""
    return [column for row in sheet.rows for column in zip(*row)]


def are_akin_columns(one, other):
    """Whether places with these column rows are akin."""
    if one == other:
        return True
    return any([sign == beside and sign != NOTHING_LEFT for sign, beside in zip(one, other)])


def are_akin(sheet, place, other):
    """Whether two places of a whole sheet are akin."""
    need_whole(sheet, "sheet")
    return are_akin_columns(sheet.column(place), sheet.column(other))


def pairs_of_places(many):
    """The ascending list of the pairs of two of so many places, the lesser one ahead."""
    return [(place, other) for place in range(many) for other in range(place + 1, many)]


def akin_pairs(sheet):
    """The ascending tuple of the pairs of akin places of a whole sheet, the lesser one ahead."""
    need_whole(sheet, "sheet")
    columns = columns_of(sheet)
    return tuple([
        (place, other)
        for place, other in pairs_of_places(len(columns))
        if are_akin_columns(columns[place], columns[other])
    ])
