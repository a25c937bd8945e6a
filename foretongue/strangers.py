"""Rows that are strangers: without which the others have a mother; rows in two layers."""

from foretongue.checks import is_numbers
from foretongue.errors import BadNumber, TooMany
from foretongue.grounds import Grounds
from foretongue.lots import lots_below, lots_of_size
from foretongue.mothers import need_asked, need_few_places, need_told
from foretongue.papers import Denial, Paper
from foretongue.refusing import least_of_rows
from foretongue.sheets import need_different_rows
from foretongue.walks import refusing_tree

MOST_ROWS = 5


class Strangers(Paper):
    """Fewest rows that are strangers, a mother of the others, and rows that bar, each lot with a tree."""

    def __init__(self, rows, dyeing, bars):
        super().__init__("strangers", rows, dyeing, bars)
        self.rows, self.dyeing, self.bars = self.parts


class Layers(Paper):
    """Rows of the one of two layers, a mother of them, and a mother of the others."""

    def __init__(self, rows, one, other):
        super().__init__("layers", rows, one, other)
        self.rows, self.one, self.other = self.parts


class NoLayers(Denial):
    """There are no two layers: rows that bar, each lot with a tree."""

    def __init__(self, bars):
        super().__init__("nolayers", bars)
        self.bars = self.parts[0]


def need_layered(sheet, width, most):
    """The errors of what is asked of all lots of rows of a sheet."""
    need_asked(sheet, width, most)
    if len(sheet.rows) > MOST_ROWS:
        raise TooMany("rows", MOST_ROWS)


def is_within_lot(inner, rows):
    """Whether a lot has all rows of another one."""
    return all([row in rows for row in inner])


def has_lot_within(lots, rows):
    """Whether some rows have all rows of one of some lots."""
    return any([is_within_lot(lot, rows) for lot in lots])


def barring_lots(sheet, width, most):
    """The list of all lots of rows that bar: fewer rows first, then as tuples."""
    found = []
    for rows in lots_below(len(sheet.rows)):
        # What has a lot that bars within is shut, and does not bar itself.
        if not has_lot_within(found, rows) and least_of_rows(sheet, width, most, rows) is None:
            found.append(rows)
    return found


def other_rows(sheet, rows):
    """The lot of the other rows of a sheet."""
    return tuple([row for row in range(len(sheet.rows)) if row not in rows])


def fewest_lots(sheet, lots):
    """The ascending list of the fewest lots of rows without which the others have none of some lots within."""
    many = len(sheet.rows)
    for size in range(many + 1):
        told = [rows for rows in lots_of_size(many, size) if not has_lot_within(lots, other_rows(sheet, rows))]
        if len(told) > 0:
            return told
    return []


def with_trees(sheet, width, most, lots):
    """For each of some lots that bar the pair of it and a refusing tree of its rows."""
    return [(rows, refusing_tree(Grounds(sheet.of_rows(rows), width), most, [])) for rows in lots]


def is_shut(sheet, width, most, rows):
    """Whether the sheet of some rows, told in any order, has no mother of at most so many sounds."""
    need_told(sheet, width, most)
    if not is_numbers(rows):
        raise BadNumber("rows")
    need_different_rows(sheet, rows)
    need_few_places(sheet)
    return least_of_rows(sheet, width, most, sorted(rows)) is None


def all_strangers(sheet, width, most):
    """The ascending tuple of all fewest lots of strangers."""
    need_layered(sheet, width, most)
    return tuple(fewest_lots(sheet, barring_lots(sheet, width, most)))


def sure_strangers(sheet, width, most):
    """The ascending tuple of the rows that are in all fewest lots of strangers."""
    need_layered(sheet, width, most)
    fewest = fewest_lots(sheet, barring_lots(sheet, width, most))
    return tuple([row for row in fewest[0] if all([row in rows for rows in fewest])])


def fewest_strangers(sheet, width, most):
    """The Strangers of the least of the fewest lots."""
    need_layered(sheet, width, most)
    lots = barring_lots(sheet, width, most)
    rows = fewest_lots(sheet, lots)[0]
    dyeing = least_of_rows(sheet, width, most, other_rows(sheet, rows))
    return Strangers(rows, dyeing, with_trees(sheet, width, most, lots))


def lots_with_first(sheet):
    """The ascending list of the lots of rows that have row 0."""
    return sorted([rows for rows in lots_below(len(sheet.rows)) if 0 in rows])


def layers(sheet, width, most):
    """The Layers of the least lot with row 0 that makes layers with the other rows, or the NoLayers."""
    need_layered(sheet, width, most)
    lots = barring_lots(sheet, width, most)
    for rows in lots_with_first(sheet):
        others = other_rows(sheet, rows)
        if not has_lot_within(lots, rows) and not has_lot_within(lots, others):
            one = least_of_rows(sheet, width, most, rows)
            return Layers(rows, one, least_of_rows(sheet, width, most, others))
    return NoLayers(with_trees(sheet, width, most, lots))
