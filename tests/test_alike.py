import unittest
from itertools import combinations

from foretongue.alike import AllAlike, Parted, can_exchange, exchanges, parting_stocks, same_on_all
from foretongue.courses import Course
from foretongue.shifts import Shift
from tests.helper import ODD, chances, error_of, plain_outcome, plain_words, some_course

DROP = Course([Shift("a", "b"), Shift("b", "")])
FOUR = Course([Shift("a", "b")] * 4)


def widest(one, other):
    return 2 * max(len(one), len(other)) + 1


def least_parting(one, other, stock, most):
    for word in plain_words(stock, most):
        if plain_outcome(one, word) != plain_outcome(other, word):
            return word
    return None


def told_plainly(one, other, stock):
    word = least_parting(one, other, stock, widest(one, other))
    if word is None:
        return AllAlike(widest(one, other))
    return Parted(word, plain_outcome(one, word), plain_outcome(other, word))


def some_two(chance, letters):
    """Two courses that are often alike: of the same shifts, of some of them, or of any."""
    one = some_course(chance, letters, chance.randrange(4))
    way = chance.randrange(4)
    if way == 0:
        return one, some_course(chance, letters, chance.randrange(4))
    if way == 1:
        return one, Course(chance.sample(one.shifts, len(one)))
    if way == 2:
        return one, Course([shift for shift in one.shifts if chance.random() < 0.6])
    return one, Course([*one.shifts, *one.shifts][:3])


class Alike(unittest.TestCase):
    def test_against_a_listing(self):
        for stock, many in [("a", 40), ("ab", 80), ("abc", 30)]:
            for chance in chances(100 + len(stock), many):
                one, other = some_two(chance, "abcd")
                self.assertEqual(same_on_all(one, other, stock), told_plainly(one, other, stock))

    def test_longer_words_part_no_more(self):
        for chance in chances(110, 60):
            one, other = some_two(chance, "abc")
            if len(one) < 3 and len(other) < 3 and same_on_all(one, other, "ab"):
                self.assertIsNone(least_parting(one, other, "ab", widest(one, other) + 3))

    def test_as_many_sounds_as_are_told_can_be_wanted(self):
        one = Course([Shift("a", "b", "c", "c"), Shift("c", "d", "b", "b")])
        other = Course([Shift("a", "b", "c", "c")])
        self.assertEqual(same_on_all(one, other, "ac").word, "cacac")
        self.assertEqual(same_on_all(Course([]), Course([]), "abcde"), AllAlike(1))
        self.assertEqual(same_on_all(Course([]), Course([Shift("e", "a")]), "abcde"), Parted("e", "e", "a"))
        self.assertIs(bool(same_on_all(one, one, "ac")), True)
        self.assertIs(bool(same_on_all(one, other, "ac")), False)

    def test_shifts_ahead_can_part(self):
        one = Course([Shift("k", "c", right="i"), Shift("u", "i")])
        other = Course([one.shifts[1], one.shifts[0]])
        ahead = Course([Shift("a", "u")])
        self.assertEqual(same_on_all(one, other, "ak"), AllAlike(5))
        self.assertEqual(same_on_all(ahead.then(one), ahead.then(other), "ak").word, "ka")

    def test_wrong(self):
        for value in ODD:
            self.assertEqual(error_of(same_on_all, value, value, value), ("BadCourse", ("one",)))
            self.assertEqual(error_of(same_on_all, FOUR, value, value), ("BadCourse", ("other",)))
            self.assertEqual(error_of(same_on_all, DROP, FOUR, value), ("BadStock", ("stock",)))
            self.assertEqual(error_of(parting_stocks, value, value, value), ("BadCourse", ("one",)))
            self.assertEqual(error_of(parting_stocks, FOUR, value, value), ("BadCourse", ("other",)))
            self.assertEqual(error_of(parting_stocks, DROP, FOUR, value), ("BadStock", ("stock",)))

    def test_bounds(self):
        three, empty = Course(FOUR.shifts[:3]), Course([])
        for call in (same_on_all, parting_stocks):
            for one, other in [(DROP, FOUR), (FOUR, DROP), (DROP, DROP), (empty, DROP)]:
                self.assertEqual(error_of(call, one, other, "abcde"), ("BadCourse", ("falls",)))
            for one, other in [(FOUR, three), (empty, FOUR), (FOUR, FOUR)]:
                self.assertEqual(error_of(call, one, other, "abcde"), ("TooMany", ("shifts", 3)))
            for one, other in [(three, empty), (empty, three)]:
                self.assertEqual(error_of(call, one, other, "abcd"), ("TooMany", ("words", 4000)))
                self.assertIsNone(error_of(call, one, other, "abc"))
            self.assertIsNone(error_of(call, Course(three.shifts[:2]), empty, "abcde"))


class Exchanges(unittest.TestCase):
    def test_against_a_listing(self):
        for chance in chances(120, 60):
            course = some_course(chance, "abc", chance.randrange(4))
            told = []
            for number in range(len(course) - 1):
                found = can_exchange(course, number, "ab")
                self.assertEqual(found, told_plainly(course, course.swapped(number), "ab"))
                if found:
                    told.append(number)
            self.assertEqual(exchanges(course, "ab"), tuple(told))

    def test_shifts_ahead_leave_nothing(self):
        course = Course([Shift("k", "t"), Shift("k", "c", right="i"), Shift("u", "i")])
        self.assertEqual(exchanges(course, "iku"), (1,))
        self.assertEqual(exchanges(course.without(0), "iku"), ())

    def test_wrong(self):
        two = Course(FOUR.shifts[:2])
        for value in ODD:
            self.assertEqual(error_of(can_exchange, value, value, value), ("BadCourse", ("course",)))
            self.assertEqual(error_of(exchanges, value, value), ("BadCourse", ("course",)))
            self.assertEqual(error_of(can_exchange, DROP, 0, value), ("BadStock", ("stock",)))
            self.assertEqual(error_of(exchanges, DROP, value), ("BadStock", ("stock",)))
            if value is not False and value != 0:
                self.assertEqual(error_of(can_exchange, two, value, value), ("NoShift", (value,)))
        for number in [1, 2, -1, True, False, None, "0"]:
            self.assertEqual(error_of(can_exchange, two, number, "a"), ("NoShift", (number,)))
            self.assertEqual(error_of(can_exchange, two, number, "ba"), ("NoShift", (number,)))
        for course in (Course([]), Course(FOUR.shifts[:1])):
            self.assertEqual(error_of(can_exchange, course, 0, "a"), ("NoShift", (0,)))
            self.assertEqual(exchanges(course, "a"), ())
        self.assertEqual(error_of(can_exchange, DROP, 0, "ab"), ("BadCourse", ("falls",)))
        self.assertEqual(error_of(exchanges, DROP, "ab"), ("BadCourse", ("falls",)))
        self.assertEqual(error_of(can_exchange, FOUR, 0, "ab"), ("TooMany", ("shifts", 3)))
        self.assertEqual(error_of(exchanges, FOUR, "abcde"), ("TooMany", ("shifts", 3)))
        three = Course(FOUR.shifts[:3])
        self.assertEqual(error_of(can_exchange, three, 0, "abcd"), ("TooMany", ("words", 4000)))
        self.assertEqual(error_of(exchanges, three, "abcd"), ("TooMany", ("words", 4000)))


class PartingStocks(unittest.TestCase):
    def test_against_a_listing(self):
        for stock, many in [("ab", 30), ("abc", 30), ("abcd", 8)]:
            for chance in chances(130 + len(stock), many):
                one, other = some_two(chance, "abcd")
                if len(stock) == 4:
                    one, other = Course(one.shifts[:1]), Course(other.shifts[:2])
                smalls = ["".join(some) for size in range(1, 5) for some in combinations(stock, size)]
                firsts = {small: least_parting(one, other, small, widest(one, other)) for small in smalls}
                wanted = [(small, firsts[small]) for small in smalls if firsts[small] is not None and not any(
                    set(inside) < set(small) and firsts[inside] is not None for inside in smalls)]
                self.assertEqual(parting_stocks(one, other, stock), tuple(wanted))

    def test_several(self):
        one = Course([Shift("b", "a"), Shift("a", "c", "d", "#"), Shift("e", "a", "e")])
        found = parting_stocks(one, Course([]), "ade")
        self.assertEqual(found, (("e", "ee"), ("ad", "da")))
        self.assertEqual(parting_stocks(one, one, "ade"), ())
