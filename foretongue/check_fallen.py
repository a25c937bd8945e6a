"""Which values are right papers of what falls together."""

from foretongue.checks import is_list, of_stock
from foretongue.courses import long_outcome, need_course
from foretongue.fallen import Fallen, LeadsBack
from foretongue.fates import Distinction, Fate, need_distinction, sort_of_pair
from foretongue.needs import need_stock
from foretongue.papers import is_called
from foretongue.rooms import Rooms, is_couple, need_rooms


def is_shut_list(course, stock, couples):
    """Whether a value is a shut list of couples of rooms of the stock."""
    if not is_list(couples) or not all([is_couple(course, stock, couple) for couple in couples]):
        return False
    rooms = Rooms(course, stock)
    inside = {tuple(couple): True for couple in couples}
    if not all([couple in inside for couple in rooms.beginning()]):
        return False
    for couple in inside:
        if rooms.is_end(couple) or not all([follow in inside for follow in rooms.nexts(couple)]):
            return False
    return True


def have_fallen(course, stock, value):
    """Whether a Fallen has two unlike long words, the lesser first, with its outcome."""
    if not of_stock(value.one, stock) or not of_stock(value.other, stock) or value.one >= value.other:
        return False
    outcome = long_outcome(course, value.one)
    return outcome == value.outcome and outcome == long_outcome(course, value.other)


def shows_fallen(course, stock, value):
    """Whether a value is a LeadsBack of a shut list, or a Fallen of any words that fall together."""
    need_course(course, "course")
    need_stock(stock, "stock")
    need_rooms(course, stock)
    if isinstance(value, LeadsBack) and is_called(value, "LeadsBack"):
        return is_shut_list(course, stock, value.couples)
    if isinstance(value, Fallen) and is_called(value, "Fallen"):
        return have_fallen(course, stock, value)
    return False


def is_pair_of(stock, sound, other, value):
    """Whether a value is a pair of long words of the stock with the two sounds at one place."""
    if not is_list(value) or len(value) != 2 or not all([of_stock(word, stock) for word in value]):
        return False
    return [(mine, its) for mine, its in zip(value[0], value[1]) if mine != its] == [(sound, other)]


def is_fate(course, stock, distinction, value):
    """Whether a Fate has for each sort a pair of it, or None where there is none."""
    least = distinction.least()
    for sort, pair in [("gone", value.gone), ("kept", value.kept), ("moved", value.moved)]:
        if pair is None:
            if sort in least:
                return False
        elif not is_pair_of(stock, distinction.sound, distinction.other, pair):
            return False
        elif sort_of_pair(course, pair[0], pair[1]) != sort:
            return False
    return True


def shows_fate(course, stock, sound, other, value):
    """Whether a value is a Fate that has for each sort any pair of it, or None where there is none."""
    need_distinction(course, stock, sound, other)
    if not isinstance(value, Fate) or not is_called(value, "Fate"):
        return False
    return is_fate(course, stock, Distinction(course, stock, sound, other), value)
