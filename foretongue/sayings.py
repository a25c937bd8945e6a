"""Sayings about the mothers of a sheet."""

from foretongue.checks import is_numbers, is_within
from foretongue.claims import BOTH, NOT, ROWS, SAME, SIZE, settled
from foretongue.dyed_places import dyed_whole
from foretongue.dyeings import need_as_many, need_dyeing
from foretongue.errors import BadNumber, BadSaying, BadText, NoPlace, NoRow, TooMany, Twice
from foretongue.sheets import need_once, need_row, need_whole
from foretongue.texts import item_at, items_of, need_end, number_at

MOST_SAYINGS = 16
MOST_SIZE = 12


def is_pair_from_zero(value):
    """Whether a value is a pair of integers from 0 on."""
    return is_numbers(value) and len(value) == 2 and min(value) >= 0


def need_pair(value, part):
    """BadSaying for what is no pair of integers from 0 on."""
    if not is_pair_from_zero(value):
        raise BadSaying(part)


def need_row_number(value, part):
    """BadSaying for what is no integer from 0 on."""
    if not is_within(value, 0, None):
        raise BadSaying(part)


def need_saying(value, part):
    """BadSaying for what is no saying."""
    if not isinstance(value, (Same, AlikeRows, Sizes, Not, Both)):
        raise BadSaying(part)


def need_few_sayings(many):
    """TooMany for more sayings in one than there may be."""
    if many > MOST_SAYINGS:
        raise TooMany("sayings", MOST_SAYINGS)


def need_place_pair(sheet, place):
    """NoPlace for a pair that is no place of the sheet."""
    if place not in sheet.places:
        raise NoPlace(place)


class Saying:
    """What can hold, or not, for a dyeing of a sheet's places; only the classes below are called."""

    @staticmethod
    def read(text):
        """The saying whose text this is."""
        items = items_of(text)
        saying, behind = saying_from(items, 0, 0)
        need_end(items, behind)
        return saying


class Same(Saying):
    """Two places, told as pairs, are dyed alike."""

    def __init__(self, place, other):
        need_pair(place, "place")
        need_pair(other, "other")
        if tuple(place) == tuple(other):
            raise Twice(tuple(other))
        self.place = tuple(place)
        self.other = tuple(other)
        self.rows = tuple(sorted(set([place[0], other[0]])))
        self.many = 1

    def __eq__(self, other):
        return isinstance(other, Same) and self.place == other.place and self.other == other.other

    def __str__(self):
        return f"{SAME} {self.place[0]} {self.place[1]} {self.other[0]} {self.other[1]}"

    def __invert__(self):
        return Not(self)

    def __and__(self, other):
        return Both(self, other)

    def need_in(self, sheet):
        """The errors of the first place that is none of a sheet."""
        need_place_pair(sheet, self.place)
        need_place_pair(sheet, self.other)

    def claim_in(self, sheet):
        """The claim of a sheet that has the places."""
        return SAME, sheet.places.index(self.place), sheet.places.index(self.other)

    def told_by(self, numbers):
        """The saying with each row as its index in a tuple of numbers of rows."""
        place = (numbers.index(self.place[0]), self.place[1])
        return Same(place, (numbers.index(self.other[0]), self.other[1]))


class AlikeRows(Saying):
    """Two rows have as many places, and those that face one another are dyed alike."""

    def __init__(self, row, other):
        need_row_number(row, "row")
        need_row_number(other, "other")
        if row == other:
            raise Twice(other)
        self.row = row
        self.other = other
        self.rows = (min(row, other), max(row, other))
        self.many = 1

    def __eq__(self, other):
        return isinstance(other, AlikeRows) and self.row == other.row and self.other == other.other

    def __str__(self):
        return f"{ROWS} {self.row} {self.other}"

    def __invert__(self):
        return Not(self)

    def __and__(self, other):
        return Both(self, other)

    def need_in(self, sheet):
        """The errors of the first row that is none of a sheet."""
        need_row(sheet, self.row)
        need_row(sheet, self.other)

    def claim_in(self, sheet):
        """The claim of a sheet that has the rows."""
        mine = sheet.places_of(self.row)
        its = sheet.places_of(self.other)
        if len(mine) != len(its):
            return ROWS, None
        return ROWS, list(zip(mine, its))

    def told_by(self, numbers):
        """The saying with each row as its index in a tuple of numbers of rows."""
        return AlikeRows(numbers.index(self.row), numbers.index(self.other))


class Sizes(Saying):
    """There are at least so many sounds."""

    def __init__(self, size):
        if not is_within(size, 1, MOST_SIZE):
            raise BadSaying("size")
        self.size = size
        self.rows = ()
        self.many = 1

    def __eq__(self, other):
        return isinstance(other, Sizes) and self.size == other.size

    def __str__(self):
        return f"{SIZE} {self.size}"

    def __invert__(self):
        return Not(self)

    def __and__(self, other):
        return Both(self, other)

    def need_in(self, sheet):
        """No errors: no row and no place is named."""

    def claim_in(self, sheet):
        """The claim of any sheet."""
        return SIZE, self.size

    def told_by(self, numbers):
        """The saying itself: it names no rows."""
        return Sizes(self.size)


class Not(Saying):
    """A saying does not hold."""

    def __init__(self, saying):
        need_saying(saying, "saying")
        need_few_sayings(saying.many + 1)
        self.saying = saying
        self.rows = saying.rows
        self.many = saying.many + 1

    def __eq__(self, other):
        return isinstance(other, Not) and self.saying == other.saying

    def __str__(self):
        return f"{NOT} {self.saying}"

    def __invert__(self):
        return Not(self)

    def __and__(self, other):
        return Both(self, other)

    def need_in(self, sheet):
        """The errors of the first place or row that is none of a sheet."""
        self.saying.need_in(sheet)

    def claim_in(self, sheet):
        """The claim of a sheet that has the places and rows."""
        return NOT, self.saying.claim_in(sheet)

    def told_by(self, numbers):
        """The saying with each row as its index in a tuple of numbers of rows."""
        return Not(self.saying.told_by(numbers))


class Both(Saying):
    """Both of two sayings hold."""

    def __init__(self, one, other):
        need_saying(one, "one")
        need_saying(other, "other")
        need_few_sayings(one.many + other.many + 1)
        self.one = one
        self.other = other
        self.rows = tuple(sorted(set(one.rows + other.rows)))
        self.many = one.many + other.many + 1

    def __eq__(self, other):
        return isinstance(other, Both) and self.one == other.one and self.other == other.other

    def __str__(self):
        return f"{BOTH} {self.one} {self.other}"

    def __invert__(self):
        return Not(self)

    def __and__(self, other):
        return Both(self, other)

    def need_in(self, sheet):
        """The errors of the first place or row, as the text has them, that is none of a sheet."""
        self.one.need_in(sheet)
        self.other.need_in(sheet)

    def claim_in(self, sheet):
        """The claim of a sheet that has the places and rows."""
        return BOTH, self.one.claim_in(sheet), self.other.claim_in(sheet)

    def told_by(self, numbers):
        """The saying with each row as its index in a tuple of numbers of rows."""
        return Both(self.one.told_by(numbers), self.other.told_by(numbers))


def same_from(items, at):
    """The Same whose numbers stand from an index on."""
    place = (number_at(items, at, 0, None), number_at(items, at + 1, 0, None))
    other = (number_at(items, at + 2, 0, None), number_at(items, at + 3, 0, None))
    if place == other:
        raise BadText(0, at + 3)
    return Same(place, other)


def alike_rows_from(items, at):
    """The AlikeRows whose numbers stand from an index on."""
    row = number_at(items, at, 0, None)
    other = number_at(items, at + 1, 0, None)
    if row == other:
        raise BadText(0, at + 1)
    return AlikeRows(row, other)


def saying_from(items, at, many):
    """The saying that stands from an index on, behind so many others, and the index behind it."""
    word = item_at(items, at)
    if many == MOST_SAYINGS:
        raise BadText(0, at)
    if word == SAME:
        return same_from(items, at + 1), at + 5
    if word == ROWS:
        return alike_rows_from(items, at + 1), at + 3
    if word == SIZE:
        return Sizes(number_at(items, at + 1, 1, MOST_SIZE)), at + 2
    if word == NOT:
        saying, behind = saying_from(items, at + 1, many + 1)
        return Not(saying), behind
    if word == BOTH:
        one, middle = saying_from(items, at + 1, many + 1)
        other, behind = saying_from(items, middle, many + 1 + one.many)
        return Both(one, other), behind
    raise BadText(0, at)


def holds(saying, sheet, dyeing):
    """Whether a saying holds for any dyeing of a whole sheet's places."""
    need_saying(saying, "saying")
    need_whole(sheet, "sheet")
    need_dyeing(dyeing, "dyeing")
    saying.need_in(sheet)
    need_as_many(sheet, dyeing)
    return settled(saying.claim_in(sheet), dyed_whole(dyeing))


def told_of(saying, rows):
    """The saying with each row that it names as its index in a list of numbers of rows."""
    need_saying(saying, "saying")
    if not is_numbers(rows) or min(rows, default=0) < 0:
        raise BadNumber("rows")
    need_once(rows)
    for row in saying.rows:
        if row not in rows:
            raise NoRow(row)
    return saying.told_by(tuple(rows))
