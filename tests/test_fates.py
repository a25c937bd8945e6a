import unittest

from foretongue.courses import Course
from foretongue.fates import Fate, bearers, fate, fate_at
from foretongue.shifts import Shift
from tests.helper import ODD, chances, error_of, plain_outcome, plain_words, some_course
from tests.test_fallen import some_even_course

DROP = Course([Shift("a", "b"), Shift("b", "")])


def all_pairs(course, stock, one, other):
    """All pairs with at most 2 n sounds ahead of the place and at most 2 n behind it."""
    most = 2 * len(course)
    sides = plain_words(stock, most)
    return [(ahead + one + behind, ahead + other + behind, len(ahead)) for ahead in sides for behind in sides]


def plain_sort(course, first, second, place):
    outcomes = plain_outcome(course, first), plain_outcome(course, second)
    unlike = [at for at in range(len(first)) if outcomes[0][at] != outcomes[1][at]]
    if not unlike:
        return "gone", unlike
    return "kept" if place in unlike else "moved", unlike


def plain_fate(course, stock, one, other):
    least = {}
    for first, second, place in all_pairs(course, stock, one, other):
        sort, _ = plain_sort(course, first, second, place)
        told = (len(first), first, second)
        if sort not in least or told < least[sort]:
            least[sort] = told
    return Fate(*[least[sort][1:] if sort in least else None for sort in ("gone", "kept", "moved")])


def plain_bearers(course, stock, one, other):
    found = set()
    for first, second, place in all_pairs(course, stock, one, other):
        outcomes = plain_outcome(course, first), plain_outcome(course, second)
        for at in plain_sort(course, first, second, place)[1]:
            found.add((at - place, outcomes[0][at], outcomes[1][at]))
    return tuple(sorted(found))


class Fates(unittest.TestCase):
    def test_against_a_listing(self):
        sorts = []
        for stock, many, times in [("ab", 0, 2), ("abcde", 0, 2), ("ab", 1, 40), ("abc", 1, 20), ("ab", 2, 40), ("ab", 3, 2),
                                   ("abcde", 1, 2)]:
            for chance in chances(600 + many + len(stock), times):
                make = chance.choice([some_course, some_even_course])
                course = make(chance, "".join(sorted(set(stock + "c"))), many)
                one, other = chance.sample(stock, 2)
                found = fate(course, stock, one, other)
                self.assertEqual(found, plain_fate(course, stock, one, other))
                self.assertEqual(bearers(course, stock, one, other), plain_bearers(course, stock, one, other))
                sorts += [sort for sort in ("gone", "kept", "moved") if getattr(found, sort) is None]
        for sort in ("gone", "kept", "moved"):
            self.assertIn(sort, sorts)

    def test_the_least_of_several(self):
        for text, stock, sounds in [("a > b / * _ b ; b > a / #ac _ * ; b > a / * _ #ac", "ab", "ab"),
                                    ("b > c / #ac _ # ; b > x / * _ ac", "abc", "bc"),
                                    ("c > b / abc _ # ; b > a / #bc _ #bc", "abc", "ba"),
                                    ("d > c / ad _ #d", "abcd", "dc")]:
            course = Course.read(text)
            self.assertEqual(fate(course, stock, *sounds), plain_fate(course, stock, *sounds))

    def test_turned_about(self):
        for chance in chances(610, 20):
            course = some_course(chance, "abc", 2)
            turned = tuple(sorted((way, other, one) for way, one, other in bearers(course, "abc", "a", "b")))
            self.assertEqual(bearers(course, "abc", "b", "a"), turned)

    def test_moved_far(self):
        course = Course([Shift("c", "d", "b"), Shift("e", "f", "d")])
        self.assertEqual(bearers(course, "bce", "b", "e")[-1], (2, "f", "e"))
        course = Course([Shift("c", "d", "b"), Shift("b", "a")])
        self.assertEqual(fate(course, "abc", "a", "b"), Fate(("a", "b"), None, ("ac", "bc")))
        self.assertEqual(bearers(course, "abc", "a", "b"), ((1, "c", "d"),))

    def test_fate_at(self):
        low = Course([Shift("k", "c", None, "e"), Shift("e", "i")])
        for ahead in ["", "a" * 40]:
            for behind in ["", "a" * 40]:
                found = [fate_at(low, ahead + one + behind, ahead + other + behind)
                         for one, other in [("e", "i"), ("ke", "ki"), ("k", "i"), ("ea", "ia"), ("kek", "kik")]]
                self.assertEqual(found, ["gone", "moved", "kept", "gone", "moved"])
        for one, other in [("", ""), ("a", "a"), ("a", ""), ("ab", "ba"), ("a", "ab"), ("abc", "bca"), ("aab", "bab" * 2)]:
            self.assertEqual(error_of(fate_at, low, one, other), ("Misfit", ("sounds",)))

    def test_fate_at_wrong(self):
        for value in ODD:
            self.assertEqual(error_of(fate_at, value, value, value), ("BadCourse", ("course",)))
            if value not in ("", "a" * 13):
                self.assertEqual(error_of(fate_at, DROP, value, value), ("BadWord", ("one",)))
                self.assertEqual(error_of(fate_at, DROP, "a", value), ("BadWord", ("other",)))
        self.assertEqual(error_of(fate_at, DROP, "a", "a"), ("BadCourse", ("falls",)))

    def test_wrong(self):
        one, two = Course([Shift("a", "b")]), Course([Shift("a", "b")] * 2)
        for call in (fate, bearers):
            for value in ODD:
                self.assertEqual(error_of(call, value, value, value, value), ("BadCourse", ("course",)))
                self.assertEqual(error_of(call, DROP, value, value, value), ("BadStock", ("stock",)))
                self.assertEqual(error_of(call, DROP, "ab", value, value), ("BadWord", ("sound",)))
                self.assertEqual(error_of(call, DROP, "ab", "z", value), ("BadWord", ("other",)))
            self.assertEqual(error_of(call, DROP, "abcde", "a", "a"), ("BadCourse", ("falls",)))
            for sounds in [("a", "a"), ("a", "c"), ("c", "a"), ("c", "d")]:
                self.assertEqual(error_of(call, one, "ab", *sounds), ("Misfit", ("sounds",)))
                self.assertEqual(error_of(call, two, "abde", *sounds), ("Misfit", ("sounds",)))
            self.assertEqual(error_of(call, two, "abde", "a", "b"), ("TooMany", ("rooms", 100)))
            self.assertEqual(error_of(call, Course(two.shifts * 2), "ab", "a", "b"), ("TooMany", ("rooms", 100)))
            self.assertIsNone(error_of(call, two, "abd", "a", "b"))
