import unittest

from foretongue.shifts import Shift
from tests.helper import (ODD, bent_items, chances, error_of, plain_changes, plain_done, plain_words, some_shift,
                          wanted_index)

FILLERS = [["a", ">", "b", "/", "*", "_", "*"], ["a", ">", "c", "/", "*", "_", "*"]]


def shift_of_items(items):
    """A shift of seven items, made without reading."""
    values = [items[0], "" if items[2] == "-" else items[2]]
    values += [None if item == "*" else item for item in (items[4], items[6])]
    return Shift(*values)


def is_shift_text(items):
    if len(items) != 7:
        return False
    return error_of(shift_of_items, items) is None and str(shift_of_items(items)) == " ".join(items)


def can_begin(items):
    return any(is_shift_text(items + filler[len(items):]) for filler in FILLERS)


class Shifts(unittest.TestCase):
    def test_attributes(self):
        shift = Shift("k", "c", "#ab", "ei")
        self.assertEqual((shift.old, shift.new, shift.left, shift.right), ("k", "c", "#ab", "ei"))
        self.assertEqual((shift.falls, shift.sounds), (False, "abceik"))
        drop = Shift("h", "", right="#")
        self.assertEqual((drop.left, drop.right, drop.falls, drop.sounds), (None, "#", True, "h"))
        self.assertIs(drop.falls, True)

    def test_wrong_values_in_their_order(self):
        for value in ODD:
            self.assertEqual(error_of(Shift, value, value, value, value), ("BadShift", ("old",)))
            if value != "":
                self.assertEqual(error_of(Shift, "a", value, value, value), ("BadShift", ("new",)))
            if value is not None and value != "#":
                self.assertEqual(error_of(Shift, "a", "b", value, value), ("BadShift", ("left",)))
                self.assertEqual(error_of(Shift, "a", "b", None, value), ("BadShift", ("right",)))
        self.assertEqual(error_of(Shift, "a", "a"), ("BadShift", ("new",)))
        for side in ["ba", "aa", "a#", "##", "#ba", "a-", "A", "1", "*", " ", "#aa"]:
            self.assertEqual(error_of(Shift, "a", "b", side), ("BadShift", ("left",)))
            self.assertEqual(error_of(Shift, "a", "b", right=side), ("BadShift", ("right",)))
        for side in ["#", "a", "#a", "az", "abcdefghijklmnopqrstuvwxyz"]:
            self.assertIsNone(error_of(Shift, "a", "b", side, side))

    def test_done_and_changes(self):
        words = plain_words("abc", 4)
        for chance in chances(1, 60):
            shift = some_shift(chance, "abc", falls=True)
            for word in words:
                self.assertEqual(shift.changes(word), plain_changes(shift, word))
                self.assertEqual(shift.done(word), plain_done(shift, word))

    def test_all_places_at_once(self):
        spread = Shift("a", "b", left="b")
        self.assertEqual([spread.done("baa"), spread.done("bba"), spread.done("aab")], ["bba", "bbb", "aab"])
        self.assertEqual(Shift("a", "", "a").done("aaaa"), "a")
        self.assertEqual(Shift("a", "", right="b").done("aab"), "ab")
        self.assertEqual(Shift("a", "b", "#", "#").done("a"), "b")
        self.assertEqual(Shift("a", "b", "#", "#").done("aa"), "aa")
        self.assertEqual(Shift("a", "b", "#a", "#a").changes("aaa"), (0, 1, 2))
        self.assertEqual(Shift("a", "b").done(""), "")
        self.assertEqual(Shift("a", "b", "#").changes(""), ())
        self.assertEqual(Shift("a", "b").done("a" * 12), "b" * 12)

    def test_done_twice(self):
        for chance in chances(2, 80):
            shift = some_shift(chance, "abc")
            sides = (shift.left or "") + (shift.right or "")
            if shift.old in sides or shift.new in sides:
                continue
            for word in plain_words("abc", 4):
                self.assertEqual(shift.done(shift.done(word)), shift.done(word))

    def test_wrong_words(self):
        shift = Shift("a", "b")
        for value in ODD:
            if value != "":
                self.assertEqual(error_of(shift.done, value), ("BadWord", ("word",)))
                self.assertEqual(error_of(shift.changes, value), ("BadWord", ("word",)))

    def test_renamed(self):
        self.assertEqual(str(Shift("k", "", "#ak", "ei").renamed("a", "z")), "k > - / #kz _ ei")
        self.assertEqual(Shift("k", "c").renamed("c", "c"), Shift("k", "c"))
        self.assertEqual(Shift("k", "c").renamed("c", "k"), Shift("c", "k"))
        for chance in chances(3, 40):
            shift = some_shift(chance, "abc", falls=True)
            for one in "abd":
                for other in "abd":
                    table = str.maketrans(one + other, other + one) if one != other else {}
                    for word in plain_words("abcd", 3):
                        renamed = shift.renamed(one, other).done(word.translate(table))
                        self.assertEqual(renamed, shift.done(word).translate(table))

    def test_renamed_wrong(self):
        shift = Shift("a", "b")
        for value in ODD:
            self.assertEqual(error_of(shift.renamed, value, value), ("BadWord", ("one",)))
            self.assertEqual(error_of(shift.renamed, "a", value), ("BadWord", ("other",)))
        self.assertEqual(str(shift), "a > b / * _ *")

    def test_equality(self):
        values = [("a", "b"), ("a", "c"), ("c", "b"), ("a", ""), ("a", "b", "#"), ("a", "b", None, "#"), ("a", "b", "c")]
        for one in values:
            for other in values:
                self.assertEqual(Shift(*one) == Shift(*other), one == other)
        for value in [None, "a > b / * _ *", ("a", "b"), 1]:
            self.assertFalse(Shift("a", "b") == value)

    def test_texts(self):
        for chance in chances(4, 60):
            shift = some_shift(chance, "abc", falls=True)
            self.assertEqual(Shift.read(str(shift)), shift)
        self.assertEqual(str(Shift("a", "", "#", "#ab")), "a > - / # _ #ab")

    def test_bent_texts(self):
        others = ["", "a", "b", "-", "*", "#", "#a", "ab", "ba", "/", ">", "_", "0", ";", "\n", "A"]
        for text in ["a > b / * _ *", "k > - / #ab _ ei", "a > c / # _ #"]:
            for items in bent_items(text.split(" "), others):
                # Leaving all items out leaves an empty text, which has one empty item.
                told = " ".join(items).split(" ")
                index = wanted_index(told, can_begin, is_shift_text)
                wanted = None if index is None else ("BadText", (0, index))
                self.assertEqual(error_of(Shift.read, " ".join(items)), wanted, items)

    def test_read_of_no_text(self):
        for value in [None, True, 5, [], ["a"], b"a > b / * _ *", Shift("a", "b"), {}]:
            self.assertEqual(error_of(Shift.read, value), ("BadText", (0, 0)))
        for text, item in [("", 0), ("a", 1), ("a  > b", 1), (" a > b / * _ *", 0), ("a > b / * _ * ", 7),
                           ("a > a / * _ *", 2), ("a > b / * _ *\n", 6), ("a" * 100000, 0)]:
            self.assertEqual(error_of(Shift.read, text), ("BadText", (0, item)))
