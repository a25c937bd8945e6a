"""Told shifts and told pairs of words, of which the order of the shifts is asked."""

from itertools import permutations

from foretongue.checks import is_list, is_numbers, is_within, is_word
from foretongue.courses import ITEMS_OF_SHIFT, Course, need_course, shifts_text
from foretongue.errors import BadPairs, BadShift, BadText, BadWord, TooMany, Twice
from foretongue.needs import need_word
from foretongue.sheets import need_once
from foretongue.shifts import Shift, shift_from
from foretongue.texts import item_at, items_of, need_end

MOST_SHIFTS = 4
MOST_PAIRS = 8
NO_PAIRS = "-"


def need_told_shifts(shifts):
    """The errors of what is no list of one to four different shifts."""
    if not is_list(shifts) or len(shifts) == 0 or not all([isinstance(shift, Shift) for shift in shifts]):
        raise BadShift("shifts")
    for at, shift in enumerate(shifts):
        if shift in shifts[:at]:
            raise Twice(shift)
    if len(shifts) > MOST_SHIFTS:
        raise TooMany("shifts", MOST_SHIFTS)


def is_word_pair(value):
    """Whether a value is a pair of words."""
    return is_list(value) and len(value) == 2 and is_word(value[0]) and is_word(value[1])


def need_told_pairs(pairs):
    """The errors of what is no list of at most eight different pairs of words."""
    if not is_list(pairs) or not all([is_word_pair(pair) for pair in pairs]):
        raise BadPairs("pairs")
    need_once([tuple(pair) for pair in pairs])
    if len(pairs) > MOST_PAIRS:
        raise TooMany("pairs", MOST_PAIRS)


def need_pairs(value, part):
    """BadPairs for what are no Pairs."""
    if not isinstance(value, Pairs):
        raise BadPairs(part)


def is_order(told, value):
    """Whether a value is an order of the told shifts."""
    return is_numbers(value) and sorted(value) == list(range(len(told.shifts)))


def need_order(told, value):
    """BadPairs for what is no order of the told shifts."""
    if not is_order(told, value):
        raise BadPairs("order")


def in_order(told, order):
    """The course of an order."""
    return Course([told.shifts[number] for number in order])


def need_words(words):
    """BadWord for what is no list of words, perhaps none."""
    if not is_list(words) or not all([is_word(word) for word in words]):
        raise BadWord("words")


def pairs_text(pairs):
    """The items of some pairs of words in a text."""
    if len(pairs) == 0:
        return NO_PAIRS
    return " ".join([f"{word}={outcome}" for word, outcome in pairs])


class Pairs:
    """One to four different shifts, and at most eight different pairs of a word and its outcome."""

    def __init__(self, shifts, pairs):
        need_told_shifts(shifts)
        need_told_pairs(pairs)
        self.shifts = tuple(shifts)
        self.pairs = tuple([tuple(pair) for pair in pairs])
        self.orders = tuple(list(permutations(range(len(shifts)))))

    def __len__(self):
        return len(self.pairs)

    def __eq__(self, other):
        return isinstance(other, Pairs) and self.shifts == other.shifts and self.pairs == other.pairs

    def __str__(self):
        return f"{shifts_text(self.shifts)} : {pairs_text(self.pairs)}"

    def course_by(self, order):
        """The course of an order."""
        need_order(self, order)
        return in_order(self, order)

    def misfits(self, order):
        """The ascending tuple of the numbers of the pairs that an order does not fit."""
        need_order(self, order)
        course = in_order(self, order)
        return tuple([number for number, pair in enumerate(self.pairs) if course.done(pair[0]) != pair[1]])

    def with_pair(self, word, outcome):
        """The Pairs with this one more, behind the others."""
        need_word(word, "word")
        need_word(outcome, "outcome")
        return Pairs(self.shifts, [*self.pairs, (word, outcome)])

    def without(self, numbers):
        """The Pairs without those with these numbers."""
        if not is_numbers(numbers) or not all([is_within(number, 0, len(self.pairs) - 1) for number in numbers]):
            raise BadPairs("numbers")
        need_once(numbers)
        left = [pair for number, pair in enumerate(self.pairs) if number not in numbers]
        return Pairs(self.shifts, left)

    @staticmethod
    def of(course, words):
        """The Pairs of the shifts of a course, and of words with their outcomes."""
        need_course(course, "course")
        need_words(words)
        return Pairs(course.shifts, [(word, course.done(word)) for word in words])

    @staticmethod
    def read(text):
        """The Pairs whose text this is."""
        items = items_of(text)
        shifts = told_shifts_from(items)
        behind = (ITEMS_OF_SHIFT + 1) * len(shifts)
        return Pairs(shifts, told_pairs_from(items, behind))


def told_shifts_from(items):
    """The list of the different shifts that stand ahead, up to `:`."""
    shifts = [shift_from(items, 0)]
    at = ITEMS_OF_SHIFT
    while item_at(items, at) != ":":
        if items[at] != ";" or len(shifts) == MOST_SHIFTS:
            raise BadText(0, at)
        shift = shift_from(items, at + 1)
        at += 1 + ITEMS_OF_SHIFT
        if shift in shifts:
            raise BadText(0, at - 1)
        shifts.append(shift)
    return shifts


def told_pairs_from(items, at):
    """The list of the different pairs that stand from an index on, up to the last item."""
    if item_at(items, at) == NO_PAIRS:
        need_end(items, at + 1)
        return []
    pairs = []
    for number in range(at, len(items)):
        pair = tuple(items[number].split("="))
        if not is_word_pair(pair) or pair in pairs or len(pairs) == MOST_PAIRS:
            raise BadText(0, number)
        pairs.append(pair)
    return pairs
