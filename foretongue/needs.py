"""Checks of parameters that raise: each names the parameter as the part of its error."""

from foretongue.checks import is_long_word, is_sound, is_stock, is_within, is_word
from foretongue.errors import BadNumber, BadStock, BadWord


def need_word(value, part):
    """BadWord for what is no word."""
    if not is_word(value):
        raise BadWord(part)


def need_long_word(value, part):
    """BadWord for what is no string of sounds, however many."""
    if not is_long_word(value):
        raise BadWord(part)


def need_sound(value, part):
    """BadWord for what is no sound."""
    if not is_sound(value):
        raise BadWord(part)


def need_stock(value, part):
    """BadStock for what is no stock."""
    if not is_stock(value):
        raise BadStock(part)


def need_number(value, part, least, most):
    """BadNumber for what is no integer from least to most, None for no bound."""
    if not is_within(value, least, most):
        raise BadNumber(part)
