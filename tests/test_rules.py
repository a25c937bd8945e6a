import unittest

from foretongue.courses import Course
from foretongue.rules import Ruled, Split, rule_history, split_history, splits
from foretongue.shifts import Shift
from tests.helper import ODD, chances, error_of, plain_done, plain_outcome, plain_words, some_course
from tests.plain_within import against_in, around, places_in, some_words, surroundings_of

FOUR = Course([Shift("a", "b")] * 4)
DROP = Course([Shift("a", "")] * 4)


def rule_in(words, sound, other):
    if not places_in(words, sound) or not places_in(words, other):
        return None
    return not against_in(words, sound, other)


def behind_each(course, words):
    """The lists of words behind none of the shifts, the first, the first two, and so on."""
    told = [words]
    for shift in course.shifts:
        words = [plain_done(shift, word) for word in words]
        told.append(words)
    return told


def quick_rule(words, sound, other):
    """As rule_in, for many words."""
    mine, its = (surroundings_of(words, one, 1) for one in (sound, other))
    return None if not mine or not its else not set(mine) & set(its)


def least_split(course, words, sound, other):
    """The least couple of words, then the least numbers, with equal surroundings; None without any."""
    met = {}
    for word in words:
        outcome = plain_outcome(course, word)
        for place, sign in enumerate(outcome):
            if sign in (sound, other):
                met.setdefault((around(outcome, place, 1), sign), []).append((word, place))
    found = []
    for sides, sign in met:
        if sign == sound:
            found += [(max(len(one[0]), len(its[0])), (one[0], its[0]), (one[1], its[1]))
                      for one in met[(sides, sign)] for its in met.get((sides, other), [])]
    if not found:
        return None
    _, told, places = min(found)
    return Split((told[0], places[0]), (told[1], places[1]))


def told_plainly(course, stock, sound, other):
    words = plain_words(stock, 2 * len(course) + 3)
    split = least_split(course, words, sound, other)
    if split is not None:
        return split
    outcomes = [plain_outcome(course, word) for word in words]
    return Ruled(tuple(sorted((*sides, one) for one in (sound, other) for sides in surroundings_of(outcomes, one, 1))))


class Histories(unittest.TestCase):
    def test_some_words(self):
        told = set()
        for chance in chances(6100, 300):
            course = some_course(chance, "acik", chance.randrange(7), falls=True)
            words = some_words(chance, "akic", 9)
            sound, other = chance.sample("akic", 2)
            wanted = tuple(rule_in(left, sound, other) for left in behind_each(course, words))
            told.update(wanted)
            self.assertEqual(rule_history(course, words, sound, other), wanted)
            self.assertEqual(len(wanted), len(course) + 1)
        self.assertEqual(told, {None, True, False})

    def test_made_and_undone(self):
        course = Course([Shift("k", "c", right="i"), Shift("i", "e"), Shift("e", "")])
        self.assertEqual(rule_history(course, ("ki", "ke"), "k", "c"), (None, True, False, False))
        self.assertEqual(rule_history(course, [""], "k", "c"), (None,) * 4)

    def test_all_words(self):
        told = set()
        for stock, many, number in [("a", 3, 20), ("ak", 2, 30), ("ak", 3, 8), ("aik", 1, 30), ("aikt", 1, 4)]:
            for chance in chances(6110 + len(stock) * 10 + many, number):
                course = some_course(chance, "acik", chance.randrange(many + 1))
                sound, other = chance.sample("aikc", 2)
                words = plain_words(stock, 2 * len(course) + 3)
                wanted = tuple(quick_rule(left, sound, other) for left in behind_each(course, words))
                told.update(wanted)
                self.assertEqual(split_history(course, stock, sound, other), wanted)
        self.assertEqual(told, {None, True, False})

    def test_longer_words_split_no_more(self):
        for chance in chances(6120, 40):
            course = some_course(chance, "ack", chance.randrange(3))
            sound, other = chance.sample("akc", 2)
            words = plain_words("ak", 2 * len(course) + 5)
            wanted = tuple(quick_rule(left, sound, other) for left in behind_each(course, words))
            self.assertEqual(split_history(course, "ak", sound, other), wanted)


class Splits(unittest.TestCase):
    def test_against_a_listing(self):
        kinds = set()
        for stock, most, many in [("a", 3, 30), ("ak", 2, 40), ("ak", 3, 5), ("aik", 1, 40), ("aik", 2, 2)]:
            for chance in chances(6130 + len(stock) * 10 + most, many):
                course = some_course(chance, "acik", chance.randrange(most + 1))
                for _ in range(2):
                    sound, other = chance.sample("aikc", 2)
                    wanted = told_plainly(course, stock, sound, other)
                    kinds.add(wanted.kind)
                    told = splits(course, stock, sound, other)
                    self.assertEqual(told, wanted)
                    self.assertIs(bool(told), isinstance(told, Ruled))
        self.assertEqual(kinds, {"ruled", "split"})

    def test_couples_of_unlike_lengths(self):
        # k stands alone in the word k; a word where c stands alone is longer, or none.
        course = Course([Shift("i", "c", "a")])
        self.assertEqual(splits(course, "aik", "c", "k"), told_plainly(course, "aik", "c", "k"))
        for course, stock, sound, other in [
                (Course([Shift("a", "c", "#", "#"), Shift("a", "k", "#", "k")]), "ak", "a", "k"),
                (Course([Shift("k", "c", "ck", "#"), Shift("k", "a", "#")]), "ak", "c", "a"),
                (Course([Shift("a", "c", "a", "#"), Shift("a", "k", "#", "ac")]), "a", "c", "k")]:
            for one, its in ((sound, other), (other, sound)):
                self.assertEqual(splits(course, stock, one, its), told_plainly(course, stock, one, its))

    def test_one_word_twice(self):
        course = Course([Shift("a", "k", "#", "a"), Shift("a", "c", "k", "#")])
        told = splits(Course([Shift("a", "k", "#")]), "ai", "k", "a")
        self.assertEqual(told, told_plainly(Course([Shift("a", "k", "#")]), "ai", "k", "a"))
        self.assertEqual(splits(course, "a", "c", "k"), told_plainly(course, "a", "c", "k"))

    def test_a_sound_that_never_stands(self):
        self.assertEqual(splits(Course([]), "ab", "x", "y"), Ruled(()))
        self.assertEqual(splits(Course([]), "a", "a", "y").rows,
                         (("#", "#", "a"), ("#", "a", "a"), ("a", "#", "a"), ("a", "a", "a")))
        self.assertEqual(splits(Course([]), "ab", "b", "a"), Split(("b", 0), ("a", 0)))

    def test_as_many_words_as_can_be(self):
        self.assertEqual(splits(Course([Shift("a", "b")]), "abcde", "b", "a").kind, "ruled")
        self.assertEqual(splits(Course([Shift("a", "b")] * 2), "abc", "b", "a").kind, "ruled")
        self.assertEqual(splits(Course([Shift("a", "b")] * 3), "ab", "b", "a").kind, "ruled")


class Wrong(unittest.TestCase):
    def test_rule_history(self):
        for value in ODD + ["-", []]:
            self.assertEqual(error_of(rule_history, value, value, value, value), ("BadCourse", ("course",)))
        for value in ODD + [["a", "A"], "ab", [["a"]]]:
            if value not in (["a"], ("a", "b")):
                self.assertEqual(error_of(rule_history, DROP, value, value, value), ("BadWord", ("words",)))
        for value in ODD + ["", "ab"]:
            self.assertEqual(error_of(rule_history, DROP, ["a"] * 13, value, value), ("BadWord", ("sound",)))
            self.assertEqual(error_of(rule_history, DROP, ["a"] * 13, "a", value), ("BadWord", ("other",)))
        self.assertEqual(error_of(rule_history, DROP, ["a"] * 13, "a", "a"), ("Twice", ("a",)))
        self.assertEqual(error_of(rule_history, DROP, ["a"] * 13, "a", "b"), ("TooMany", ("words", 12)))
        self.assertIsNone(error_of(rule_history, DROP, ["a"] * 12, "a", "b"))

    def test_splits(self):
        for call in (splits, split_history):
            for value in ODD + ["-", []]:
                self.assertEqual(error_of(call, value, value, value, value), ("BadCourse", ("course",)))
            for value in ODD + ["ba", "abcdef", ["a"]]:
                if value != "a":
                    self.assertEqual(error_of(call, DROP, value, value, value), ("BadStock", ("stock",)))
            for value in ODD + ["", "ab"]:
                self.assertEqual(error_of(call, DROP, "abcde", value, value), ("BadWord", ("sound",)))
                self.assertEqual(error_of(call, DROP, "abcde", "a", value), ("BadWord", ("other",)))
            self.assertEqual(error_of(call, DROP, "abcde", "a", "a"), ("Twice", ("a",)))
            self.assertEqual(error_of(call, DROP, "abcde", "a", "b"), ("BadCourse", ("falls",)))
            self.assertEqual(error_of(call, FOUR, "abcde", "a", "b"), ("TooMany", ("shifts", 3)))
            for many, stock in [(3, "abc"), (2, "abcd"), (2, "abcde")]:
                course = Course(FOUR.shifts[:many])
                self.assertEqual(error_of(call, course, stock, "a", "b"), ("TooMany", ("words", 4000)))
            for many, stock in [(3, "ab"), (2, "abc"), (1, "abcde"), (0, "abcde")]:
                self.assertIsNone(error_of(call, Course(FOUR.shifts[:many]), stock, "a", "b"))
