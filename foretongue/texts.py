"""Reading texts: items with single blanks between, one line alone."""

from foretongue.errors import BadText


def items_of(text):
    """The list of the items of a text; BadText for what is no string."""
    if not isinstance(text, str):
        raise BadText(0, 0)
    return text.split(" ")


def item_at(items, at):
    """The item at an index; BadText if it is missing."""
    if at >= len(items):
        raise BadText(0, len(items))
    return items[at]


def need_end(items, at):
    """BadText for an item too many."""
    if at < len(items):
        raise BadText(0, at)
