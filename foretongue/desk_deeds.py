"""Deeds at a desk: what a line makes of a shelf."""

from foretongue.desk_lines import deed_from
from foretongue.errors import Twice
from foretongue.shelves import Shelf, need_shelf, sheet_named


def with_things(shelf, things):
    """The shelf with other things."""
    return Shelf(things, shelf.width, shelf.most)


def with_thing(shelf, name, thing):
    """The shelf with another thing under a name."""
    return with_things(shelf, [(kept, thing if kept == name else value) for kept, value in shelf.things])


def put_done(shelf, told):
    """The shelf with one more thing behind, and how many things it has."""
    name, thing = told
    if name in shelf.names:
        raise Twice(name)
    return with_things(shelf, [*shelf.things, (name, thing)]), len(shelf.things) + 1


def drop_done(shelf, told):
    """The shelf without a thing, and how many things it has."""
    shelf.thing(told[0])
    left = [(name, thing) for name, thing in shelf.things if name != told[0]]
    return with_things(shelf, left), len(left)


def row_done(shelf, told):
    """The shelf with one more row in a sheet, and how many rows the sheet has."""
    name, *cells = told
    sheet = sheet_named(shelf, name).with_row(cells)
    return with_thing(shelf, name, sheet), len(sheet.rows)


def strike_done(shelf, told):
    """The shelf with a sheet without some rows, and how many rows are left."""
    name, *rows = told
    sheet = sheet_named(shelf, name).without(rows)
    return with_thing(shelf, name, sheet), len(sheet.rows)


def fill_done(shelf, told):
    """The shelf with a cell put into a sheet, and how many gaps the sheet has."""
    name, row, language, cell = told
    sheet = sheet_named(shelf, name).with_cell(row, language, cell)
    return with_thing(shelf, name, sheet), len(sheet.gaps)


def width_done(shelf, told):
    """The shelf with a width, and the width."""
    return Shelf(shelf.things, told[0], shelf.most), told[0]


def most_done(shelf, told):
    """The shelf with a greatest size, and the size."""
    return Shelf(shelf.things, shelf.width, told[0]), told[0]


ACTIONS = {
    "put": put_done,
    "drop": drop_done,
    "row": row_done,
    "strike": strike_done,
    "fill": fill_done,
    "width": width_done,
    "most": most_done,
}


def changed(shelf, line):
    """The pair of the Shelf behind a deed line, and the answer."""
    need_shelf(shelf, "shelf")
    word, *told = deed_from(line)
    action = ACTIONS[word]
    made, number = action(shelf, told)
    return made, str(number)
