import unittest

from foretongue.check_fallen import shows_fallen, shows_fate
from foretongue.courses import Course
from foretongue.fallen import Fallen, LeadsBack, fallen
from foretongue.fates import Fate, fate
from foretongue.shifts import Shift
from tests.helper import (ODD, bent_parts, chances, error_of, lists_for_tuples, plain_outcome, plain_words, some_course,
                          some_shift, strangers)
from tests.test_fallen import some_even_course
from tests.test_fates import all_pairs, plain_sort
from tests.test_rooms import plain_couples, plain_first, plain_next, plain_rest, plain_rooms

DROP = Course([Shift("a", "b"), Shift("b", "")])


def is_shut(course, stock, couples):
    every, rooms = plain_couples(course, stock), plain_rooms(course, stock)
    if type(couples) is not tuple or not all(type(couple) is tuple and couple in every for couple in couples):
        return False
    wanted = set(plain_first(course, stock))
    for couple in couples:
        wanted |= set(plain_next(course, stock, couple))
    ends = [couple for couple in couples
            if plain_rest(course, rooms[couple[0]]) == plain_rest(course, rooms[couple[1]])]
    return not ends and wanted <= set(couples)


def is_long_word_of(value, stock):
    return type(value) is str and set(value) <= set(stock)


def is_fallen(course, stock, parts):
    one, other, outcome = parts
    if not is_long_word_of(one, stock) or not is_long_word_of(other, stock):
        return False
    if len(one) != len(other) or one >= other:
        return False
    return plain_outcome(course, one) == plain_outcome(course, other) == outcome


def is_fate_part(course, stock, sounds, sort, pair, sorts):
    if pair is None:
        return sort not in sorts
    if type(pair) is not tuple or len(pair) != 2 or not all(is_long_word_of(word, stock) for word in pair):
        return False
    unlike = [at for at in range(min(map(len, pair))) if pair[0][at] != pair[1][at]]
    if len(pair[0]) != len(pair[1]) or len(unlike) != 1 or (pair[0][unlike[0]], pair[1][unlike[0]]) != sounds:
        return False
    return plain_sort(course, *pair, unlike[0])[0] == sort


def tuples(value):
    return tuple(tuples(part) for part in value) if isinstance(value, (list, tuple)) else value


class CheckFallen(unittest.TestCase):
    def test_any_words_that_fall_together(self):
        for chance in chances(700, 12):
            course = some_course(chance, "abc", 2)
            words = plain_words("ab", 4)
            for one in words:
                for other in words:
                    outcome = plain_outcome(course, one)
                    for parts in [(one, other, outcome), (one, other, one)]:
                        wanted = is_fallen(course, "ab", parts)
                        self.assertIs(shows_fallen(course, "ab", Fallen(*parts)), wanted)

    def test_long_words(self):
        course = Course([Shift("a", "b", "c")])
        ahead = "abc" * 20000
        parts = (ahead + "a", ahead + "b", plain_outcome(course, ahead + "b"))
        self.assertIs(shows_fallen(course, "abc", Fallen(*parts)), True)
        self.assertIs(shows_fallen(course, "abc", Fallen(parts[1], parts[0], parts[2])), False)
        self.assertIs(shows_fallen(course, "abc", Fallen(parts[0], parts[0], parts[2])), False)
        self.assertIs(shows_fallen(course, "abd", Fallen(*parts)), False)

    def test_bent_fallen(self):
        course = Course([Shift("k", "c", None, "i")])
        for parts in [("ci", "ki", "ci"), ("cci", "cki", "cci")]:
            self.assertIs(shows_fallen(course, "cik", Fallen(*parts)), True)
            for bent in bent_parts(parts):
                if len(bent) == 3:
                    wanted = is_fallen(course, "cik", tuples(bent))
                    self.assertIs(shows_fallen(course, "cik", Fallen(*bent)), wanted, bent)

    def test_bent_lists(self):
        bent_ones = 0
        for course, stock in [(Course([Shift("k", "c", None, "i")]), "ik"), (Course([Shift("a", "c", "b")]), "ab"),
                              (Course([Shift("a", "x", "b"), Shift("x", "a", None, "#")]), "ab"), (Course([]), "ab")]:
            right = fallen(course, stock)
            self.assertIs(shows_fallen(course, stock, right), True)
            self.assertIs(shows_fallen(course, stock, LeadsBack(lists_for_tuples(right.couples[::-1]))), True)
            self.assertIs(shows_fallen(course, stock, LeadsBack(right.couples * 2)), True)
            if len(right.couples) < 8:
                for bent in bent_parts(right.parts):
                    if len(bent) == 1:
                        bent_ones += 1
                        wanted = is_shut(course, stock, tuples(bent[0]))
                        self.assertIs(shows_fallen(course, stock, LeadsBack(*bent)), wanted, bent)
        self.assertGreater(bent_ones, 100)

    def test_more_couples_than_can_be_come_to(self):
        course, more = Course([Shift("k", "c", None, "i")]), 0
        right = fallen(course, "ik").couples
        for couple in plain_couples(course, "ik"):
            wanted = is_shut(course, "ik", right + (couple,))
            more += wanted and couple not in right
            self.assertIs(shows_fallen(course, "ik", LeadsBack(right + (couple,))), wanted)
        self.assertGreater(more, 0)
        for couple in right:
            fewer = [other for other in right if other != couple]
            self.assertIs(shows_fallen(course, "ik", LeadsBack(fewer)), is_shut(course, "ik", tuple(fewer)))

    def test_a_step_is_missing(self):
        missing = 0
        for course, stock in [(Course([Shift("x", "a")] * 2), "ab"), (Course([Shift("b", "x", None, "#")]), "ab"),
                              (Course([Shift("a", "x", "b"), Shift("x", "a", None, "#")]), "ab")]:
            right, begin = fallen(course, stock).couples, plain_first(course, stock)
            for couple in right:
                fewer = tuple(other for other in right if other != couple)
                missing += couple not in begin and not is_shut(course, stock, fewer)
                self.assertIs(shows_fallen(course, stock, LeadsBack(fewer)), is_shut(course, stock, fewer))
        self.assertGreater(missing, 5)

    def test_what_does_not_lead_back(self):
        for chance in chances(710, 15):
            course = some_even_course(chance, "abc", 1)
            every = plain_couples(course, "ab")
            for couples in [every, plain_first(course, "ab"), ()]:
                wanted = is_shut(course, "ab", tuple(couples))
                self.assertIs(shows_fallen(course, "ab", LeadsBack(couples)), wanted)

    def test_any_other_value(self):
        course = Course([Shift("k", "c", None, "i")])

        right = fallen(course, "ik")
        for value in ODD + strangers(LeadsBack, right.couples) + [Fate(None, None, None)]:
            self.assertIs(shows_fallen(course, "ik", value), False)
        for value in ODD + strangers(Fallen, "ci", "ki", "ci") + [right]:
            self.assertIs(shows_fallen(course, "cik", value), False)
        for value in ODD:
            if value not in ([], ()):
                self.assertIs(shows_fallen(Course([]), "ik", LeadsBack(value)), False)

    def test_wrong(self):
        for value in ODD:
            self.assertEqual(error_of(shows_fallen, value, value, value), ("BadCourse", ("course",)))
            self.assertEqual(error_of(shows_fallen, DROP, value, value), ("BadStock", ("stock",)))
            self.assertEqual(error_of(shows_fallen, DROP, "abcde", value), ("BadCourse", ("falls",)))
            two = Course([Shift("a", "b")] * 2)
            self.assertEqual(error_of(shows_fallen, two, "abcd", value), ("TooMany", ("rooms", 100)))


class CheckFate(unittest.TestCase):
    def test_any_pairs(self):
        for many, times in [(0, 1), (1, 12), (2, 6)]:
            for chance in chances(720 + many, times):
                course = Course([some_shift(chance, "abc") for _ in range(many)])
                pairs = all_pairs(course, "ab", "a", "b")
                sorts = {}
                for first, second, place in pairs:
                    sorts.setdefault(plain_sort(course, first, second, place)[0], []).append((first, second))
                told = [sorts.get(sort, [None]) for sort in ("gone", "kept", "moved")]
                self.assertIs(shows_fate(course, "ab", "a", "b", fate(course, "ab", "a", "b")), True)
                for _ in range(10):
                    parts = [chance.choice(some) for some in told]
                    self.assertIs(shows_fate(course, "ab", "a", "b", Fate(*parts)), True)
                    self.assertIs(shows_fate(course, "ab", "a", "b", Fate(*lists_for_tuples(parts))), True)
                    at, pair = chance.randrange(3), chance.choice(pairs)[:2]
                    parts[at] = chance.choice([None, pair, pair[::-1]])
                    wanted = all(is_fate_part(course, "ab", ("a", "b"), sort, part, sorts)
                                 for sort, part in zip(("gone", "kept", "moved"), parts))
                    self.assertIs(shows_fate(course, "ab", "a", "b", Fate(*parts)), wanted)

    def test_bent_fates(self):
        low = Course([Shift("k", "c", None, "e"), Shift("e", "i")])
        sorts = ("gone", "moved")
        for parts in [(("e", "i"), None, ("ke", "ki")), (("kee" * 9, "kee" * 8 + "kei"), None, ("ke" * 30, "ke" * 29 + "ki"))]:
            self.assertIs(shows_fate(low, "eik", "e", "i", Fate(*parts)), True)
            for bent in bent_parts(parts):
                if len(bent) == 3:
                    wanted = all(is_fate_part(low, "eik", ("e", "i"), sort, part, sorts)
                                 for sort, part in zip(("gone", "kept", "moved"), tuples(bent)))
                    self.assertIs(shows_fate(low, "eik", "e", "i", Fate(*bent)), wanted, bent)
        self.assertIs(shows_fate(low, "eik", "e", "i", Fate(("ez", "iz"), None, ("ke", "ki"))), False)

    def test_any_other_value(self):
        low = Course([Shift("k", "c", None, "e"), Shift("e", "i")])
        right = fate(low, "eik", "e", "i")

        for value in ODD + [Fallen("e", "i", "i")] + strangers(Fate, *right.parts):
            self.assertIs(shows_fate(low, "eik", "e", "i", value), False)
        self.assertIs(shows_fate(low, "eik", "i", "e", right), False)

    def test_wrong(self):
        one, two = Course([Shift("a", "b")]), Course([Shift("a", "b")] * 2)
        for value in ODD:
            self.assertEqual(error_of(shows_fate, value, value, value, value, value), ("BadCourse", ("course",)))
            self.assertEqual(error_of(shows_fate, DROP, value, value, value, value), ("BadStock", ("stock",)))
            self.assertEqual(error_of(shows_fate, DROP, "ab", value, value, value), ("BadWord", ("sound",)))
            self.assertEqual(error_of(shows_fate, DROP, "ab", "a", value, value), ("BadWord", ("other",)))
            self.assertEqual(error_of(shows_fate, DROP, "ab", "a", "a", value), ("BadCourse", ("falls",)))
            for sounds in [("a", "a"), ("a", "c"), ("c", "b")]:
                self.assertEqual(error_of(shows_fate, one, "ab", *sounds, value), ("Misfit", ("sounds",)))
            self.assertEqual(error_of(shows_fate, two, "abcd", "a", "b", value), ("TooMany", ("rooms", 100)))
