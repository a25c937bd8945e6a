"""Whether a shift feeds another one, or bars it, at a place of a word."""

from foretongue.checks import is_within, is_word, of_stock
from foretongue.errors import BadShift
from foretongue.needs import need_stock
from foretongue.papers import Paper, is_called
from foretongue.shifts import Shift, changed_places, line_of, shifted
from foretongue.stocks import longer_words

# Which places a shift changes behind another one hangs on two sounds on each side.
WIDEST = 5


class Feeds(Paper):
    """A word, and a place of it at which the one shift feeds the other."""

    def __init__(self, word, place):
        super().__init__("feeds", word, place)
        self.word, self.place = self.parts


class Bars(Paper):
    """A word, and a place of it at which the one shift bars the other."""

    def __init__(self, word, place):
        super().__init__("bars", word, place)
        self.word, self.place = self.parts


def need_shift(value, part):
    """BadShift for what is no shift."""
    if not isinstance(value, Shift):
        raise BadShift(part)


def need_meeting(one, other, stock):
    """The errors of two shifts that do not fall, and a stock."""
    need_shift(one, "one")
    need_shift(other, "other")
    need_stock(stock, "stock")
    if one.falls or other.falls:
        raise BadShift("falls")


def places_fed(one, other, line):
    """The indices in a line at which one feeds other, ascending."""
    alone = set(changed_places(other, line))
    return [at for at in changed_places(other, shifted(one, line)) if at not in alone]


def places_barred(one, other, line):
    """The indices in a line at which one bars other, ascending."""
    behind = set(changed_places(other, shifted(one, line)))
    return [at for at in changed_places(other, line) if at not in behind]


def first_met(one, other, stock, places_of_line):
    """The pair of the least word, and its least place, at which the shifts meet; None without any."""
    words = [""]
    for length in range(1, WIDEST + 1):
        words = longer_words(words, stock)
        places = places_of_line(one, other, line_of(words))
        if len(places) > 0:
            # Behind the first `#` each word takes its sounds and one more `#`.
            number, place = divmod(places[0] - 1, length + 1)
            return words[number], place
    return None


def feeds(one, other, stock):
    """The Feeds of the least word and its least place at which one feeds other, None without any."""
    need_meeting(one, other, stock)
    found = first_met(one, other, stock, places_fed)
    if found is None:
        return None
    return Feeds(found[0], found[1])


def bars(one, other, stock):
    """The Bars of the least word and its least place at which one bars other, None without any."""
    need_meeting(one, other, stock)
    found = first_met(one, other, stock, places_barred)
    if found is None:
        return None
    return Bars(found[0], found[1])


def is_place_told(value, stock):
    """Whether a Feeds or a Bars has a word of the stock and the number of a place of it."""
    if not is_word(value.word) or not of_stock(value.word, stock):
        return False
    return is_within(value.place, 0, len(value.word) - 1)


def shows_met(one, other, stock, value):
    """Whether a value is a Feeds or a Bars that is so, at any place of any word of the stock."""
    need_meeting(one, other, stock)
    if isinstance(value, Feeds) and is_called(value, "Feeds") and is_place_told(value, stock):
        return value.place + 1 in places_fed(one, other, line_of([value.word]))
    if isinstance(value, Bars) and is_called(value, "Bars") and is_place_told(value, stock):
        return value.place + 1 in places_barred(one, other, line_of([value.word]))
    return False
