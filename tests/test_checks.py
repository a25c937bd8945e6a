import unittest

from foretongue import checks
from tests.helper import ODD


class Checks(unittest.TestCase):
    def agree(self, check, right, wrong):
        for value in right:
            self.assertIs(check(value), True, value)
        for value in wrong:
            self.assertIs(check(value), False, value)
        for value in ODD:
            if value not in right:
                self.assertIs(check(value), False, value)

    def test_is_integer(self):
        for value in [0, 1, -1, 10 ** 400]:
            self.assertIs(checks.is_integer(value), True)
        for value in [True, False, None, 1.0, "1", [1], b"1"]:
            self.assertIs(checks.is_integer(value), False)

    def test_is_within(self):
        self.assertIs(checks.is_within(3, 3, 3), True)
        self.assertIs(checks.is_within(3, None, None), True)
        self.assertIs(checks.is_within(-10 ** 90, None, 0), True)
        self.assertIs(checks.is_within(2, 3, None), False)
        self.assertIs(checks.is_within(4, None, 3), False)
        for value in [True, False, None, 1.0, "1", [1], [], {}]:
            self.assertIs(checks.is_within(value, 0, 5), False)
            self.assertIs(checks.is_within(value, None, None), False)

    def test_is_name(self):
        right = ["a", "a1", "z" * 12, "a00000000009", "ab"]
        self.agree(checks.is_name, right, ["1a", "a" * 13, "A", "aB", "a_", "a b", "a-", "\u00e4", "a\u0660", "a\n", "\u00b2"])

    def test_is_sound(self):
        self.agree(checks.is_sound, list("abcdefghijklmnopqrstuvwxyz"), ["ab", "1", "\u00df", "`", "{", " ", "\n"])

    def test_is_word(self):
        self.agree(checks.is_word, ["", "a", "zz", "a" * 12], ["a" * 13, "a-", "a1", "a b", "aA", "a\n", "\u00e4", ["a"]])

    def test_is_stock(self):
        right = ["a", "az", "abcde", "kmz"]
        self.agree(checks.is_stock, right, ["", "aa", "ba", "abcdef", "a-", "Ab", "abca", ["a"]])

    def test_is_numbers(self):
        for value in [[], (), [1], (0, -1), [10 ** 99]]:
            self.assertIs(checks.is_numbers(value), True)
        for value in [None, 1, "12", [True], (1, None), [1.0], ["1"], {1: 1}, {1}, [[1]], True]:
            self.assertIs(checks.is_numbers(value), False)

    def test_first_twice(self):
        for values, twice in [([], None), ([1], None), ([1, 2, 3], None), ([1, 2, 2, 1], 2), ((1, 2, 1, 2), 1),
                              (["a", "b", "b"], "b"), (["", ""], ""), ([0, 0], 0)]:
            self.assertEqual(checks.first_twice(values), twice)

    def test_of_stock(self):
        for word, stock, is_so in [("", "a", True), ("aba", "ab", True), ("abc", "ab", False), ("b", "a", False),
                                   ("a" * 500, "ab", True), ("-", "ab", False), (5, "ab", False), (None, "a", False),
                                   ("a", None, False)]:
            self.assertIs(checks.of_stock(word, stock), is_so)
