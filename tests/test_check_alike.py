import unittest

from foretongue.alike import AllAlike, Parted, same_on_all
from foretongue.check_alike import shows_alike, shows_core, shows_first
from foretongue.courses import Course
from foretongue.idle import Core, FirstOrder, first_alike, least_course
from foretongue.shifts import Shift
from tests.helper import (ODD, bent_parts, chances, error_of, lists_for_tuples, plain_outcome, plain_words, some_course,
                          strangers)
from tests.test_idle import course_of, first_of, plain_lots, plain_orders


def is_parting(one, other, stock, word):
    if type(word) is not str or len(word) > 12 or not set(word) <= set(stock):
        return False
    return plain_outcome(one, word) != plain_outcome(other, word)


def is_right_parted(one, other, stock, parts):
    if not is_parting(one, other, stock, parts[0]):
        return False
    return parts[1:] == (plain_outcome(one, parts[0]), plain_outcome(other, parts[0]))


def is_right_row(rows, first, course, stock, parts):
    numbers, words = first
    if type(parts[0]) is not tuple or any(type(number) is not int for number in parts[0]) or parts[0] != numbers:
        return False
    if type(parts[1]) is not tuple or len(parts[1]) != len(words):
        return False
    return all(is_parting(course_of(course, row), course, stock, word) for row, word in zip(rows, parts[1]))


def tuples(parts):
    return tuple(tuples(part) if isinstance(part, (list, tuple)) else part for part in parts)


class CheckAlike(unittest.TestCase):
    def setUp(self):
        self.soft, self.high = Shift("k", "c", None, "i"), Shift("u", "i")
        self.one, self.other = Course([self.soft, self.high]), Course([self.high, self.soft])
        self.three = Course([Shift("k", "t"), self.soft, self.high])

    def test_any_word_that_parts(self):
        for chance in chances(300, 20):
            one, other = some_course(chance, "abc", 2), some_course(chance, "abc", 2)
            found = same_on_all(one, other, "ab")
            self.assertIs(shows_alike(one, other, "ab", found), True)
            for most in range(-1, 8):
                wanted = bool(found) and most == 5
                self.assertIs(shows_alike(one, other, "ab", AllAlike(most)), wanted)
            for word in plain_words("abc", 4):
                first, second = plain_outcome(one, word), plain_outcome(other, word)
                wanted = first != second and "c" not in word
                self.assertIs(shows_alike(one, other, "ab", Parted(word, first, second)), wanted)
                self.assertIs(shows_alike(one, other, "ab", Parted(word, second, first)), False)

    def test_bent_parted(self):
        long = "ku" * 6
        for word in ("ku", "kku", long):
            parts = (word, self.one.done(word), self.other.done(word))
            self.assertIs(shows_alike(self.one, self.other, "iku", Parted(*parts)), True)
            for bent in bent_parts(parts):
                if len(bent) == 3:
                    wanted = is_right_parted(self.one, self.other, "iku", tuples(bent))
                    self.assertIs(shows_alike(self.one, self.other, "iku", Parted(*bent)), wanted, bent)
        past = Parted("a" + long, "a" + self.one.done(long), "a" + self.other.done(long))
        self.assertIs(shows_alike(self.one, self.other, "aiku", past), False)

    def test_bent_all_alike(self):
        self.assertIs(shows_alike(self.one, self.other, "ik", AllAlike(5)), True)
        for value in ODD + [4, 6, 5.0, [5], "5"]:
            self.assertIs(shows_alike(self.one, self.other, "ik", AllAlike(value)), False)
        empty = Course([])
        self.assertIs(shows_alike(empty, empty, "k", AllAlike(1)), True)
        self.assertIs(shows_alike(empty, empty, "k", AllAlike(True)), False)
        self.assertIs(shows_alike(self.one, self.other, "iku", AllAlike(5)), False)

    def test_bent_rows(self):
        twice = Course([self.soft, self.high, self.soft])
        for course in (self.three, twice, Course([self.high, self.three.shifts[0], self.soft]), Course([])):
            for find, show, made, rows in [(least_course, shows_core, Core, plain_lots),
                                           (first_alike, shows_first, FirstOrder, plain_orders)]:
                paper = find(course, "iku")
                first = first_of(rows(course), course, "iku")
                self.assertIs(show(course, "iku", paper), True)
                self.assertIs(show(course, "iku", made(*lists_for_tuples(paper.parts))), True)
                for bent in bent_parts(paper.parts):
                    if len(bent) == 2:
                        wanted = is_right_row(rows(course), first, course, "iku", tuples(bent))
                        self.assertIs(show(course, "iku", made(*bent)), wanted, bent)

    def test_other_words_in_rows(self):
        self.assertIs(shows_core(self.three, "iku", Core((0, 2), ("kk", "u", "k", "ik", "u"))), True)
        self.assertIs(shows_core(self.three, "iku", Core((0, 2), ("kk", "u", "k", "ik", "k"))), False)
        self.assertIs(shows_core(self.three, "iku", Core((0, 2), ("kk", "u", "k", "ik", "u" * 12))), True)
        self.assertIs(shows_core(self.three, "iku", Core((0, 2), ("kk", "u", "k", "ik", "u" * 13))), False)
        self.assertIs(shows_core(self.three, "iku", Core((0, 2), ("kka", "u", "k", "ik", "u"))), False)

    def test_any_other_value(self):
        parted, core = Parted("ku", "ki", "ci"), least_course(self.three, "iku")
        first = first_alike(self.three, "iku")

        for value in ODD + [core, first] + strangers(Parted, *parted.parts):
            self.assertIs(shows_alike(self.one, self.other, "iku", value), False)
        for value in ODD + [core, first] + strangers(AllAlike, 5):
            self.assertIs(shows_alike(self.one, self.other, "ik", value), False)
        for value in ODD + [parted, first] + strangers(Core, *core.parts):
            self.assertIs(shows_core(self.three, "iku", value), False)
        for value in ODD + [parted, core, FirstOrder((0,), ())] + strangers(FirstOrder, *first.parts):
            self.assertIs(shows_first(self.three, "iku", value), False)

    def test_wrong(self):
        shift = Shift("a", "b")
        drop = Course([shift] * 3 + [Shift("b", "")])
        for value in ODD:
            self.assertEqual(error_of(shows_alike, value, value, value, value), ("BadCourse", ("one",)))
            self.assertEqual(error_of(shows_alike, drop, value, value, value), ("BadCourse", ("other",)))
            self.assertEqual(error_of(shows_alike, drop, drop, value, value), ("BadStock", ("stock",)))
            for show in (shows_core, shows_first):
                self.assertEqual(error_of(show, value, value, value), ("BadCourse", ("course",)))
                self.assertEqual(error_of(show, drop, value, value), ("BadStock", ("stock",)))
            for show in (shows_core, shows_first, lambda *told: shows_alike(told[0], *told)):
                self.assertEqual(error_of(show, drop, "abcde", value), ("BadCourse", ("falls",)))
                self.assertEqual(error_of(show, Course([shift] * 4), "abcde", value), ("TooMany", ("shifts", 3)))
                self.assertEqual(error_of(show, Course([shift] * 3), "abcd", value), ("TooMany", ("words", 4000)))
