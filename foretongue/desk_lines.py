"""Lines of a desk: deeds and asks, and what their items stand for."""

from foretongue.cells import is_cell
from foretongue.checks import is_name, is_stock, is_word
from foretongue.courses import course_from
from foretongue.errors import BadText
from foretongue.sheet_texts import GAP, sheet_items_from
from foretongue.sheets import Sheet
from foretongue.texts import item_at, items_of, need_end, number_at

DEEDS = ("put", "drop", "row", "strike", "fill", "width", "most")
ASKS = (
    "names",
    "show",
    "width",
    "most",
    "size",
    "mother",
    "same",
    "alike",
    "strangers",
    "stand",
    "done",
    "parts",
    "fallen",
)
# What the kinds of things are called in lines.
SHEET = "sheet"
COURSE = "course"
# The sorts of what stands behind the first item of a line. The plural ones, and a thing, take
# all items up to the end.
DEED_SORTS = {
    "put": ("name", "thing"),
    "drop": ("name",),
    "row": ("name", "cells"),
    "strike": ("name", "numbers"),
    "fill": ("name", "number", "name", "cell"),
    "width": ("number",),
    "most": ("number",),
}
ASK_SORTS = {
    "names": (),
    "show": ("name",),
    "width": (),
    "most": (),
    "size": ("name",),
    "mother": ("name",),
    "same": ("name", "number", "number"),
    "alike": ("name", "number", "number"),
    "strangers": ("name",),
    "stand": ("name", "number", "name"),
    "done": ("name", "word"),
    "parts": ("name", "name", "stock"),
    "fallen": ("name", "stock"),
}


def cell_from(items, at):
    """The cell that stands at an index, None for a gap."""
    item = item_at(items, at)
    if item != GAP and not is_cell(item):
        raise BadText(0, at)
    return None if item == GAP else item


def can_be(item, sort):
    """Whether an item is a name, a word or a stock, as its sort tells."""
    if sort == "name":
        return is_name(item)
    if sort == "word":
        return is_word(item)
    return is_stock(item)


def one_from(items, at, sort):
    """What the one item at an index stands for, told its sort."""
    if sort == "number":
        return number_at(items, at, 0, None)
    if sort == "cell":
        return cell_from(items, at)
    item = item_at(items, at)
    if not can_be(item, sort):
        raise BadText(0, at)
    return item


def several_from(items, at, sort):
    """The list of what one or more items stand for, all of one sort, from an index up to the end."""
    return [one_from(items, index, sort) for index in range(at, max(at + 1, len(items)))]


def thing_from(items, at):
    """The sheet or the course whose kind and text stand from an index up to the end."""
    kind = item_at(items, at)
    if kind == SHEET:
        languages, rows = sheet_items_from(items, at + 1)
        return Sheet(languages, rows)
    if kind == COURSE:
        return course_from(items, at + 1)
    raise BadText(0, at)


def others_from(items, at, sort):
    """The list of what all items from an index on stand for, told the sort that takes them all."""
    if sort == "thing":
        return [thing_from(items, at)]
    return several_from(items, at, "number" if sort == "numbers" else "cell")


def line_from(items, sorts):
    """The list of the first item of a line, and of what the others stand for, told their sorts."""
    told = [items[0]]
    for at, sort in enumerate(sorts, start=1):
        if sort in ("numbers", "cells", "thing"):
            return told + others_from(items, at, sort)
        told.append(one_from(items, at, sort))
    need_end(items, 1 + len(sorts))
    return told


def deed_from(line):
    """The list of the first item of a deed line, and of what the others stand for."""
    items = items_of(line)
    if items[0] not in DEED_SORTS:
        raise BadText(0, 0)
    return line_from(items, DEED_SORTS[items[0]])


def ask_from(line):
    """The list of the first item of an ask line, and of what the others stand for."""
    items = items_of(line)
    if items[0] not in ASK_SORTS:
        raise BadText(0, 0)
    return line_from(items, ASK_SORTS[items[0]])


def is_ask(line):
    """Whether a line is an ask line by its first item; `width` and `most` are so if nothing stands behind."""
    items = items_of(line)
    return items[0] in ASK_SORTS and (items[0] not in DEED_SORTS or len(items) == 1)


def read_line(line):
    """The tuple of the first item of any line, and of what the others stand for."""
    return tuple(ask_from(line) if is_ask(line) else deed_from(line))
