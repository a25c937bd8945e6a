"""Lots: ascending tuples of some of the numbers below a number."""

from itertools import combinations

from foretongue.checks import is_numbers, is_rising, is_within


def lots_of_size(many, size):
    """All lots of so many of the numbers below many, as tuples compare."""
    return list(combinations(range(many), int(size)))


def lots_below(many):
    """All lots of the numbers below many, the empty one, too: fewer numbers first, then as tuples."""
    lots = []
    for size in range(many + 1):
        lots.extend(lots_of_size(many, size))
    return lots


def is_lot(value, many):
    """Whether a value is a lot of the numbers below many, perhaps empty."""
    if not is_numbers(value) or not is_rising(value):
        return False
    return all([is_within(number, 0, many - 1) for number in value])
