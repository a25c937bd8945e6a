"""In which orders told shifts make what is told."""

from foretongue.courses import done_line
from foretongue.lots import lots_below
from foretongue.pairs import in_order, need_pairs, need_words
from foretongue.papers import Denial, Paper
from foretongue.shifts import line_of


class Fits(Paper):
    """A possible order."""

    def __init__(self, order):
        super().__init__("fits", order)
        self.order = self.parts[0]


class NoOrder(Denial):
    """A set of as few pairs as can be that bars all orders."""

    def __init__(self, numbers):
        super().__init__("noorder", numbers)
        self.numbers = self.parts[0]


def outcomes_by(told, order, words):
    """The tuple of the outcomes of some words by the course of an order."""
    if len(words) == 0:
        return ()
    # All words at once: shifts do one long line faster than many words.
    return tuple(done_line(in_order(told, order), line_of(words))[1:-1].split("#"))


def fits_of(told):
    """For each order the mask of the pairs that it fits."""
    words = [word for word, _ in told.pairs]
    wanted = [outcome for _, outcome in told.pairs]
    fits = {}
    for order in told.orders:
        outcomes = outcomes_by(told, order, words)
        fits[order] = sum([1 << at for at, outcome in enumerate(outcomes) if outcome == wanted[at]])
    return fits


def possible_among(told, fits):
    """The ascending list of the orders that fit all told pairs."""
    every = (1 << len(told.pairs)) - 1
    return [order for order in told.orders if fits[order] == every]


def bars_masks(numbers, masks):
    """Whether none of some masks has all the pairs with these numbers."""
    mask = sum([1 << number for number in numbers])
    return all([mask & fit != mask for fit in masks])


def first_barring(many, masks):
    """The first set of fewest pairs, of so many, that none of some masks has whole; None without any."""
    for numbers in lots_below(many):
        if bars_masks(numbers, masks):
            return numbers
    return None


def barring_all(told, fits):
    """The first set of fewest told pairs that bars all orders."""
    return first_barring(len(told.pairs), [fits[order] for order in told.orders])


def possible_orders(told):
    """The ascending tuple of all possible orders, perhaps none."""
    need_pairs(told, "told")
    return tuple(possible_among(told, fits_of(told)))


def order_of(told):
    """The Fits of the first possible order, or the NoOrder of the first set that bars all."""
    need_pairs(told, "told")
    fits = fits_of(told)
    possible = possible_among(told, fits)
    if len(possible) > 0:
        return Fits(possible[0])
    return NoOrder(barring_all(told, fits))


def grouped(orders, keys):
    """The dict of some orders in groups, those with one key together, by their first orders."""
    groups = {}
    for order, key in zip(orders, keys):
        groups.setdefault(key, []).append(order)
    return groups


def outcomes_of(told, words):
    """The possible orders in groups, those with the same outcomes of all the words together."""
    need_pairs(told, "told")
    need_words(words)
    possible = possible_among(told, fits_of(told))
    groups = grouped(possible, [outcomes_by(told, order, words) for order in possible])
    return tuple([(outcomes, tuple(orders)) for outcomes, orders in groups.items()])
