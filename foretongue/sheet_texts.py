"""Reading the languages and the rows of a sheet, item by item."""

from foretongue.cells import has_cell, is_cell, width_of
from foretongue.checks import is_name
from foretongue.errors import BadText
from foretongue.texts import item_at

GAP = "."
MOST_LANGUAGES = 4
MOST_ROWS = 6
MOST_PLACES = 12


def languages_from(items, at):
    """The list of the languages whose names stand from an index on, up to `:`."""
    languages = []
    while item_at(items, at + len(languages)) != ":" or len(languages) == 0:
        item = items[at + len(languages)]
        if not is_name(item) or item in languages or len(languages) == MOST_LANGUAGES:
            raise BadText(0, at + len(languages))
        languages.append(item)
    return languages


def fits_in_row(cell, row, many, room):
    """Whether a cell, or None, can stand behind those ahead in a row of so many languages.

    The row may have as many places as there is room for in the sheet.
    """
    if cell is None:
        return len(row) < many - 1 or has_cell(row)
    if not is_cell(cell):
        return False
    if has_cell(row):
        return len(cell) == width_of(row)
    return len(cell) <= room


def row_from(items, at, many, room):
    """The list of the cells of a row, a gap as None, that stand from an index on."""
    row = []
    for index in range(many):
        item = item_at(items, at + index)
        cell = None if item == GAP else item
        if not fits_in_row(cell, row, many, room):
            raise BadText(0, at + index)
        row.append(cell)
    return row


def rows_from(items, at, many):
    """The list of the rows that stand from an index on, up to the last item."""
    rows = [row_from(items, at, many, MOST_PLACES)]
    room = MOST_PLACES - width_of(rows[0])
    behind = at + many
    while behind < len(items):
        if items[behind] != "/" or len(rows) == MOST_ROWS or room == 0:
            raise BadText(0, behind)
        row = row_from(items, behind + 1, many, room)
        rows.append(row)
        room -= width_of(row)
        behind += 1 + many
    return rows


def sheet_items_from(items, at):
    """The pair of the languages and the rows of the sheet that stands from an index on."""
    languages = languages_from(items, at)
    return languages, rows_from(items, at + len(languages) + 1, len(languages))
