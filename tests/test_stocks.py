import unittest

from foretongue.stocks import next_word, word_at, word_number, words_of
from tests.helper import ODD, error_of, plain_words

LAST = {"a": 12, "ik": 2 ** 13 - 2}


class Stocks(unittest.TestCase):
    def test_words_of(self):
        for stock, most in [("a", 0), ("a", 12), ("ik", 3), ("ik", 12), ("abc", 9), ("abcde", 6), ("abcd", 7), ("abcde", 0)]:
            words = words_of(stock, most)
            self.assertIs(type(words), tuple)
            self.assertEqual(list(words), plain_words(stock, most))

    def test_more_than_twenty_thousand_words(self):
        for stock, most in [("abc", 10), ("abcd", 8), ("abcde", 7), ("abcde", 12)]:
            self.assertEqual(error_of(words_of, stock, most), ("TooMany", ("words", 20000)))

    def test_words_of_wrong(self):
        for value in ODD:
            self.assertEqual(error_of(words_of, value, -1), None if value == "a" else ("BadStock", ("stock",)))
        for value in [True, False, None, -1, 13, "1", [], 10 ** 40, 1.0]:
            self.assertEqual(error_of(words_of, "abcde", value), ("BadNumber", ("most",)))

    def test_numbers_and_back(self):
        for stock, most in [("a", 12), ("ik", 9), ("abc", 6), ("abcd", 5), ("abcde", 4)]:
            for number, word in enumerate(plain_words(stock, most)):
                self.assertEqual(word_number(word, stock), number)
                self.assertEqual(word_at(stock, number), word)

    def test_next_word(self):
        for stock, most in [("a", 12), ("ik", 6), ("abcde", 3)]:
            words = plain_words(stock, most)
            for word, behind in zip(words, words[1:]):
                self.assertEqual(next_word(word, stock), behind)

    def test_the_last_word(self):
        for stock in ["a", "ik", "abc", "abcd", "abcde"]:
            last = stock[-1] * 12
            number = sum(len(stock) ** length for length in range(13)) - 1
            self.assertEqual(word_number(last, stock), number)
            self.assertEqual(word_at(stock, number), last)
            self.assertIsNone(next_word(last, stock))
            self.assertEqual(error_of(word_at, stock, number + 1), ("BadNumber", ("number",)))
            self.assertEqual(next_word(word_at(stock, number - 1), stock), last)

    def test_long_words_of_five_sounds(self):
        for word in ["edcbaedcbaed", "aaaaaaaaaaaa", "abcdeabcdea"]:
            self.assertEqual(word_at("abcde", word_number(word, "abcde")), word)

    def test_wrong(self):
        for call in (word_number, next_word):
            for value in ODD:
                if not isinstance(value, str) or value not in ["", "a"]:
                    self.assertEqual(error_of(call, value, value), ("BadWord", ("word",)))
                if value != "a":
                    self.assertEqual(error_of(call, "a", value), ("BadStock", ("stock",)))
            self.assertEqual(error_of(call, "ab", "a"), ("Misfit", ("stock",)))
            self.assertEqual(error_of(call, "a" * 13, "a"), ("BadWord", ("word",)))
        for value in [True, False, None, -1, "1", [], 10 ** 40, 1.0]:
            self.assertEqual(error_of(word_at, "ab", value), ("BadNumber", ("number",)))
            self.assertEqual(error_of(word_at, "ba", value), ("BadStock", ("stock",)))
