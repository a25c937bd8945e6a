"""Plain readings of what the document says of orders, by a look at all orders and words."""

from itertools import combinations, permutations

from foretongue.courses import Course
from foretongue.pairs import Pairs
from foretongue.shifts import Shift
from tests.helper import plain_done, plain_words, some_shift


def plain_made(shifts, order, word):
    """The outcome of a word, however long."""
    for number in order:
        word = plain_done(shifts[number], word)
    return word


def plain_orders(told):
    return list(permutations(range(len(told.shifts))))


def fitted(told, order):
    """The numbers of the pairs that an order fits."""
    return {at for at, (word, outcome) in enumerate(told.pairs) if plain_made(told.shifts, order, word) == outcome}


def plain_possible(told):
    return [order for order in plain_orders(told) if len(fitted(told, order)) == len(told.pairs)]


def plain_sets(told):
    many = len(told.pairs)
    return [lot for size in range(many + 1) for lot in combinations(range(many), size)]


def fitting(told, numbers):
    """The orders that fit a set."""
    return [order for order in plain_orders(told) if set(numbers) <= fitted(told, order)]


def bars(told, numbers):
    return not fitting(told, numbers)


def forces(told, one, other, numbers):
    left = fitting(told, numbers)
    return bool(left) and all(order.index(one) < order.index(other) for order in left)


def fewest(told, is_so):
    """All sets of fewest pairs that are so, in their order."""
    found = [numbers for numbers in plain_sets(told) if is_so(numbers)]
    return [numbers for numbers in found if len(numbers) == len(found[0])]


def plain_firm(told):
    possible, numbers = plain_possible(told), range(len(told.shifts))
    return tuple((one, other) for one in numbers for other in numbers
                 if one != other and all(order.index(one) < order.index(other) for order in possible))


def kept_by(order, pairs):
    return all(order.index(one) < order.index(other) for one, other in pairs)


def parting_word(told, orders, stock):
    """The least word of at most 2 n + 1 sounds that parts any two of some orders; None without any."""
    for word in plain_words(stock, 2 * len(told.shifts) + 1):
        if len({plain_made(told.shifts, order, word) for order in orders}) > 1:
            return word
    return None


def some_busy_shift(chance, letters, falls):
    """A shift that changes many words."""
    shift = some_shift(chance, letters, falls)
    left, right = (side if chance.random() < 0.3 else None for side in (shift.left, shift.right))
    return Shift(shift.old, shift.new, left, right)


def some_told(chance, many, letters="abc", falls=False, honest=0.8):
    """Told shifts, so many, and pairs made by some order of them, some of them not."""
    shifts = []
    while len(shifts) < many:
        shift = some_busy_shift(chance, letters, falls)
        if shift not in shifts:
            shifts.append(shift)
    order, pairs = chance.sample(range(many), many), []
    for _ in range(chance.randrange(6)):
        word = "".join(chance.choices(letters, k=chance.randrange(5)))
        turn = order if chance.random() < honest else chance.sample(range(many), many)
        pair = (word, plain_made(shifts, turn, word))
        if pair not in pairs:
            pairs.append(pair)
    return Pairs(shifts, pairs)


def course_of(told, order):
    return Course([told.shifts[number] for number in order])
