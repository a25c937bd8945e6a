"""Which values are right papers of orders of told shifts."""

from foretongue.befores import (
    Ahead,
    AllKept,
    Behind,
    Either,
    Loose,
    firm_pairs,
    forcing,
    is_ahead,
    keeps,
    need_two_shifts,
)
from foretongue.check_alike import is_word_of
from foretongue.checks import is_list, is_numbers
from foretongue.lots import is_lot
from foretongue.orders import Fits, NoOrder, barring_all, bars_masks, fits_of, outcomes_by, possible_among
from foretongue.pairs import is_order, need_pairs
from foretongue.papers import is_called
from foretongue.ways import OneWay, TwoWays, least_parting_orders, need_all_ways, need_told_stock


def is_list_of_numbers(value):
    """Whether a value is a list of lists of integers."""
    return is_list(value) and all([is_numbers(item) for item in value])


def is_possible(possible, value):
    """Whether a value is one of the possible orders."""
    return is_numbers(value) and value in possible


def is_barring_set(told, fits, numbers):
    """Whether a value is a set of as few pairs as can be that bars all orders."""
    if not is_lot(numbers, len(told.pairs)) or not bars_masks(numbers, [fits[order] for order in told.orders]):
        return False
    return len(numbers) == len(barring_all(told, fits))


def shows_order(told, value):
    """Whether a value is a Fits of any possible order, or a right NoOrder."""
    need_pairs(told, "told")
    fits = fits_of(told)
    if isinstance(value, Fits) and is_called(value, "Fits"):
        return is_possible(possible_among(told, fits), value.order)
    if isinstance(value, NoOrder) and is_called(value, "NoOrder"):
        return is_barring_set(told, fits, value.numbers)
    return False


def is_forcing_set(told, fits, one, other, numbers):
    """Whether a value is a set of as few pairs as can be that forces one shift ahead of another one."""
    masks = [fits[order] for order in told.orders if is_ahead(order, other, one)]
    if not is_lot(numbers, len(told.pairs)) or not bars_masks(numbers, masks):
        return False
    return len(numbers) == len(forcing(told, fits, one, other))


def is_either(possible, one, other, value):
    """Whether an Either has a possible order for each way in which two shifts can stand."""
    if not is_possible(possible, value.first) or not is_possible(possible, value.second):
        return False
    return is_ahead(value.first, one, other) and is_ahead(value.second, other, one)


def shows_before(told, one, other, value):
    """Whether a value is a right Ahead, Behind or Either; none is right without a possible order."""
    need_two_shifts(told, one, other)
    fits = fits_of(told)
    possible = possible_among(told, fits)
    if len(possible) == 0:
        return False
    if isinstance(value, Ahead) and is_called(value, "Ahead"):
        return is_forcing_set(told, fits, one, other, value.numbers)
    if isinstance(value, Behind) and is_called(value, "Behind"):
        return is_forcing_set(told, fits, other, one, value.numbers)
    if isinstance(value, Either) and is_called(value, "Either"):
        return is_either(possible, one, other, value)
    return False


def are_firm_pairs(told, possible, value):
    """Whether a value is the tuple of the firm pairs."""
    return is_list_of_numbers(value) and value == firm_pairs(told, possible)


def shows_firm(told, value):
    """Whether a value is a right AllKept or Loose; none is right without a possible order."""
    need_pairs(told, "told")
    possible = possible_among(told, fits_of(told))
    if len(possible) == 0:
        return False
    if isinstance(value, AllKept) and is_called(value, "AllKept"):
        if not are_firm_pairs(told, possible, value.pairs):
            return False
        return all([order in possible for order in told.orders if keeps(order, value.pairs)])
    if isinstance(value, Loose) and is_called(value, "Loose"):
        if not are_firm_pairs(told, possible, value.pairs) or not is_order(told, value.order):
            return False
        return keeps(value.order, value.pairs) and value.order not in possible
    return False


def are_two_ways(told, possible, stock, value):
    """Whether a TwoWays has two possible orders and any word of the stock that parts them."""
    if not is_possible(possible, value.first) or not is_possible(possible, value.second):
        return False
    if not is_word_of(value.word, stock):
        return False
    return outcomes_by(told, value.first, [value.word]) != outcomes_by(told, value.second, [value.word])


def shows_one_way(told, stock, value):
    """Whether a value is a right OneWay or TwoWays; none is right without a possible order."""
    need_told_stock(told, stock)
    need_all_ways(told, stock)
    possible = possible_among(told, fits_of(told))
    if len(possible) == 0:
        return False
    if isinstance(value, OneWay) and is_called(value, "OneWay"):
        if not is_list_of_numbers(value.orders) or value.orders != tuple(possible):
            return False
        return least_parting_orders(told, possible, stock) is None
    if isinstance(value, TwoWays) and is_called(value, "TwoWays"):
        return are_two_ways(told, possible, stock, value)
    return False
