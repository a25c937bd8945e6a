"""Which told shifts stand ahead of which in all possible orders."""

from foretongue.checks import is_within
from foretongue.errors import Impossible, NoShift, Twice
from foretongue.orders import NoOrder, barring_all, first_barring, fits_of, possible_among
from foretongue.pairs import need_pairs
from foretongue.papers import Denial, Paper


class Ahead(Paper):
    """A set of as few pairs as can be that forces one shift ahead of the other."""

    def __init__(self, numbers):
        super().__init__("ahead", numbers)
        self.numbers = self.parts[0]


class Behind(Denial):
    """A set of as few pairs as can be that forces the other shift ahead of the one."""

    def __init__(self, numbers):
        super().__init__("behind", numbers)
        self.numbers = self.parts[0]


class Either(Paper):
    """A possible order with the one shift ahead, and one with the other shift ahead."""

    def __init__(self, first, second):
        super().__init__("either", first, second)
        self.first, self.second = self.parts


class AllKept(Paper):
    """The firm pairs: each order that keeps them is possible."""

    def __init__(self, pairs):
        super().__init__("allkept", pairs)
        self.pairs = self.parts[0]


class Loose(Denial):
    """The firm pairs, and an order that keeps them and is not possible."""

    def __init__(self, pairs, order):
        super().__init__("loose", pairs, order)
        self.pairs, self.order = self.parts


def need_two_shifts(told, one, other):
    """The errors of told pairs and the numbers of two different shifts of theirs."""
    need_pairs(told, "told")
    for number in (one, other):
        if not is_within(number, 0, len(told.shifts) - 1):
            raise NoShift(number)
    if one == other:
        raise Twice(other)


def need_possible(told, fits):
    """Impossible with the NoOrder that order_of tells, if no order is possible."""
    if len(possible_among(told, fits)) == 0:
        raise Impossible(NoOrder(barring_all(told, fits)))


def is_ahead(order, one, other):
    """Whether one shift stands ahead of another one in an order."""
    return order.index(one) < order.index(other)


def forcing(told, fits, one, other):
    """The first set of fewest pairs that forces one shift ahead of another one.

    It bars all orders in which the other one is ahead; some order fits it, as some is possible.
    """
    masks = [fits[order] for order in told.orders if is_ahead(order, other, one)]
    return first_barring(len(told.pairs), masks)


def before(told, one, other):
    """The Ahead, Behind or Either of two shifts, with the first such set or the first such orders."""
    need_two_shifts(told, one, other)
    fits = fits_of(told)
    need_possible(told, fits)
    possible = possible_among(told, fits)
    first = [order for order in possible if is_ahead(order, one, other)]
    second = [order for order in possible if is_ahead(order, other, one)]
    if len(second) == 0:
        return Ahead(forcing(told, fits, one, other))
    if len(first) == 0:
        return Behind(forcing(told, fits, other, one))
    return Either(first[0], second[0])


def firm_pairs(told, possible):
    """The ascending tuple of the pairs of shifts of which the one is ahead in all possible orders."""
    numbers = range(len(told.shifts))
    return tuple([
        (one, other)
        for one in numbers
        for other in numbers
        if one != other and all([is_ahead(order, one, other) for order in possible])
    ])


def keeps(order, pairs):
    """Whether in an order one stands ahead of other for each of some pairs."""
    return all([is_ahead(order, one, other) for one, other in pairs])


def firm(told):
    """The AllKept of the firm pairs, or the Loose of the first order that keeps them in vain."""
    need_pairs(told, "told")
    fits = fits_of(told)
    need_possible(told, fits)
    possible = possible_among(told, fits)
    pairs = firm_pairs(told, possible)
    for order in told.orders:
        if keeps(order, pairs) and order not in possible:
            return Loose(pairs, order)
    return AllKept(pairs)
