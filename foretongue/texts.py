"""Reading texts: items with single blanks between, one line alone."""

from foretongue.checks import is_within
from foretongue.errors import BadText

MOST_DIGITS = 60


def items_of(text):
    """The list of the items of a text; BadText for what is no string."""
    if not isinstance(text, str):
        raise BadText(0, 0)
    return text.split(" ")


def item_at(items, at):
    """The item at an index; BadText if it is missing."""
    if at >= len(items):
        raise BadText(0, len(items))
    return items[at]


def need_end(items, at):
    """BadText for an item too many."""
    if at < len(items):
        raise BadText(0, at)


def is_number_item(item):
    """Whether an item is an integer from 0 on: decimals without leading zeros, at most 60."""
    if not item.isascii() or not item.isdigit() or len(item) > MOST_DIGITS:
        return False
    return item == "0" or item[0] != "0"


def number_at(items, at, least, most):
    """The integer from least to most, None for no bound, whose item stands at an index."""
    item = item_at(items, at)
    if not is_number_item(item) or not is_within(int(item), least, most):
        raise BadText(0, at)
    return int(item)
