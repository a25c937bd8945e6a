import unittest

from foretongue.courses import Course
from foretongue.fallen import Fallen, LeadsBack, fallen, fallen_lots, falls_at, mothers_of
from foretongue.shifts import Shift
from tests.helper import ODD, chances, error_of, plain_outcome, plain_words, some_course, some_shift
from tests.test_rooms import plain_first, plain_next, plain_rest, plain_rooms

DROP = Course([Shift("a", "b"), Shift("b", "")])


def least_fallen(course, stock, most):
    """The least couple of words of at most so many sounds that fall together."""
    for length in range(most + 1):
        lots = {}
        for word in plain_words(stock, length, length):
            lots.setdefault(plain_outcome(course, word), []).append(word)
        couples = [(lot[0], lot[1]) for lot in lots.values() if len(lot) > 1]
        if couples:
            return min(couples)
    return None


def plain_reached(course, stock):
    ahead = list(plain_first(course, stock))
    found = set(ahead)
    while ahead:
        for couple in plain_next(course, stock, ahead.pop()):
            if couple not in found:
                found.add(couple)
                ahead.append(couple)
    return tuple(sorted(found))


def turned(shift):
    """A shift that often leads back what another one does, in the same surroundings."""
    return Shift(shift.new, shift.old, shift.left, shift.right)


def some_even_course(chance, letters, many):
    """A course of which many lead back: shifts of sounds that stand beside the stock, and back again."""
    shifts = []
    while len(shifts) < many:
        shift = some_shift(chance, letters)
        shifts.append(Shift(shift.old, chance.choice("xyz"), shift.left, shift.right) if chance.random() < 0.7 else shift)
        if chance.random() < 0.3:
            shifts.append(turned(shifts[-1]))
    return Course(shifts[:many])


class FallsTogether(unittest.TestCase):
    def check(self, course, stock, most):
        found, wanted = fallen(course, stock), least_fallen(course, stock, most)
        if isinstance(found, Fallen) and len(found.one) <= most or wanted is not None:
            self.assertEqual((found.one, found.other), wanted)
        if isinstance(found, Fallen):
            self.assertLess(found.one, found.other)
            self.assertEqual([plain_outcome(course, word) for word in (found.one, found.other)], [found.outcome] * 2)
        return found

    def test_against_listings(self):
        sorts = []
        for stock, most, many, times in [("a", 9, 3, 5), ("ab", 9, 1, 40), ("ab", 9, 2, 60), ("ab", 9, 3, 40),
                                         ("abc", 6, 1, 30), ("abc", 6, 2, 25), ("abcde", 4, 1, 10), ("ab", 3, 0, 2)]:
            for chance in chances(500 + many + most, times):
                course = some_even_course(chance, "".join(sorted(set(stock + "bc"))), many)
                sorts.append(self.check(course, stock, most).kind)
        self.assertGreater(sorts.count("fallen"), 30)
        self.assertGreater(sorts.count("leadsback"), 30)

    def test_the_couples_of_what_leads_back(self):
        for stock, many in [("ab", 1), ("ab", 2), ("abc", 1)]:
            for chance in chances(510 + many, 15):
                course = some_even_course(chance, stock, many)
                found = fallen(course, stock)
                if found:
                    self.assertEqual(found, LeadsBack(plain_reached(course, stock)))
                    rooms = plain_rooms(course, stock)
                    for one, other in found.couples:
                        self.assertNotEqual(plain_rest(course, rooms[one]), plain_rest(course, rooms[other]))

    def test_words_unlike_at_two_places(self):
        course = Course([Shift("a", "c", None, "b"), Shift("b", "c", None, "a"), Shift("a", "b", "c")])
        self.assertEqual(fallen(course, "ab"), Fallen("ab", "ba", "cb"))
        self.assertEqual(falls_at(course, "ab"), 2)

    def test_the_least_of_several(self):
        for text, stock, wanted in [
                ("a > c / #c _ * ; b > c / * _ ab ; b > a / * _ #b", "ab", ("aa", "ab", "ca")),
                ("b > c / * _ ac ; a > c / bc _ #a", "abc", ("ba", "bc", "cc")),
                ("b > a / #abc _ c ; a > b / a _ *", "abc", ("aa", "ab", "ab")),
                ("a > c / # _ ac ; a > b / * _ bc", "abc", ("aa", "ca", "ca"))]:
            course = Course.read(text)
            self.assertEqual(least_fallen(course, stock, 3), wanted[:2])
            self.assertEqual(fallen(course, stock), Fallen(*wanted))

    def test_no_two_words(self):
        self.assertEqual(fallen(Course([Shift("a", "b")] * 6), "a"), LeadsBack(()))
        self.assertEqual(fallen(Course([]), "abcde"), LeadsBack(()))
        self.assertIsNone(falls_at(Course([]), "abcde"))

    def test_falls_at(self):
        found = []
        for stock, most, many in [("ab", 8, 3), ("abc", 5, 2)]:
            for chance in chances(520 + many, 60):
                course = some_even_course(chance, "abc", many)
                at = falls_at(course, stock)
                found.append(at)
                parts = [bool(fallen(Course(course.shifts[:number]), stock)) for number in range(many + 1)]
                self.assertEqual(at, None if parts[-1] else parts.index(False) - 1)
        self.assertGreater(len([at for at in found if at]), 5)

    def test_wrong(self):
        shift = Shift("a", "b")
        for call in (fallen, falls_at):
            for value in ODD:
                self.assertEqual(error_of(call, value, value), ("BadCourse", ("course",)))
                self.assertEqual(error_of(call, DROP, value), ("BadStock", ("stock",)))
            self.assertEqual(error_of(call, DROP, "abcde"), ("BadCourse", ("falls",)))
            for many, stock in [(2, "abcd"), (3, "abc"), (4, "ab"), (2, "abcde")]:
                self.assertEqual(error_of(call, Course([shift] * many), stock), ("TooMany", ("rooms", 100)))
            for many, stock in [(1, "abcde"), (2, "abc"), (3, "ab"), (6, "a")]:
                self.assertIsNone(error_of(call, Course([shift] * many), stock))


class Mothers(unittest.TestCase):
    def test_against_a_listing(self):
        for stock, most, many, times in [("ab", 6, 3, 20), ("abc", 4, 2, 20), ("abc", 4, 6, 20), ("a", 6, 1, 4), ("bc", 4, 0, 1)]:
            words = plain_words(stock, most)
            for chance in chances(530 + many, times):
                course = some_course(chance, "abc", many)
                lots = {}
                for word in words:
                    lots.setdefault(plain_outcome(course, word), []).append(word)
                for outcome in plain_words("abc", 3) + list(lots):
                    self.assertEqual(mothers_of(course, stock, outcome), tuple(lots.get(outcome, [])))

    def test_wrong(self):
        shift = Shift("a", "b")
        for value in ODD:
            self.assertEqual(error_of(mothers_of, value, value, value), ("BadCourse", ("course",)))
            self.assertEqual(error_of(mothers_of, DROP, value, value), ("BadStock", ("stock",)))
            if value != "":
                self.assertEqual(error_of(mothers_of, DROP, "ab", value), ("BadWord", ("outcome",)))
        self.assertEqual(error_of(mothers_of, DROP, "ab", "a" * 7), ("BadCourse", ("falls",)))
        self.assertEqual(error_of(mothers_of, Course([shift] * 6), "abcde", "b" * 7), ("TooMany", ("sounds", 6)))
        self.assertEqual(len(mothers_of(Course([shift] * 6), "abcde", "b" * 6)), 64)
        self.assertEqual(mothers_of(Course([]), "a", ""), ("",))


class Lots(unittest.TestCase):
    def test_against_a_listing(self):
        for stock, most, many, times in [("ab", 5, 3, 15), ("abc", 4, 2, 15), ("abcde", 5, 6, 2), ("abc", 0, 2, 1)]:
            for chance in chances(540 + many, times):
                course = some_course(chance, stock + "x", many)
                lots = {}
                for word in plain_words(stock, most):
                    lots.setdefault(plain_outcome(course, word), []).append(word)
                wanted = tuple(tuple(lot) for lot in lots.values() if len(lot) > 1)
                self.assertEqual(fallen_lots(course, stock, most), wanted)
                self.assertEqual(list(wanted), sorted(wanted, key=lambda lot: (len(lot[0]), lot[0])))

    def test_shorter_words_first(self):
        self.assertEqual(fallen_lots(Course([Shift("c", "b")]), "abc", 2)[:2], (("b", "c"), ("ab", "ac")))

    def test_wrong(self):
        for value in ODD:
            self.assertEqual(error_of(fallen_lots, value, value, value), ("BadCourse", ("course",)))
            self.assertEqual(error_of(fallen_lots, DROP, value, value), ("BadStock", ("stock",)))
        for value in [True, False, None, -1, 6, 1.0, "1", [1]]:
            self.assertEqual(error_of(fallen_lots, DROP, "ab", value), ("BadNumber", ("most",)))
        self.assertEqual(error_of(fallen_lots, DROP, "ab", 5), ("BadCourse", ("falls",)))
        self.assertIsNone(error_of(fallen_lots, Course([Shift("a", "b")] * 6), "abcde", 5))
