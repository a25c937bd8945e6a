import unittest

from foretongue.met import Bars, Feeds, bars, feeds, shows_met
from foretongue.shifts import Shift
from tests.helper import (ODD, bent_parts, chances, error_of, plain_changes, plain_done, plain_words, some_shift,
                          strangers)


def places_met(one, other, word, is_fed):
    alone = plain_changes(other, word)
    behind = plain_changes(other, plain_done(one, word))
    return [at for at in (behind if is_fed else alone) if at not in (alone if is_fed else behind)]


def first_met(one, other, words, is_fed):
    for word in words:
        for place in places_met(one, other, word, is_fed):
            return word, place
    return None


class Met(unittest.TestCase):
    def test_against_a_listing(self):
        for stock, many in [("abc", 60), ("ab", 60), ("abcd", 12)]:
            words = plain_words(stock, 5)
            for chance in chances(50 + len(stock), many):
                one, other = some_shift(chance, stock + "x"), some_shift(chance, stock + "x")
                for call, made, is_fed in [(feeds, Feeds, True), (bars, Bars, False)]:
                    found, wanted = call(one, other, stock), first_met(one, other, words, is_fed)
                    self.assertEqual(found, None if wanted is None else made(*wanted))

    def test_a_word_of_five_sounds(self):
        self.assertIsNone(feeds(Shift("a", "b", "c", "d"), Shift("e", "f", "d", "b"), "abcde"))
        one, other = Shift("a", "b", "c", "c"), Shift("c", "d", "b", "b")
        self.assertEqual(feeds(one, other, "ac"), Feeds("cacac", 2))
        self.assertEqual(feeds(Shift("a", "b", "c", "d"), Shift("d", "e", "b", "c"), "acd"), Feeds("cadc", 2))
        self.assertEqual(bars(Shift("a", "b", "c", "d"), Shift("d", "e", "a", "c"), "acd"), Bars("cadc", 2))

    def test_facts_when_they_do_not_meet(self):
        words = plain_words("ab", 7)
        for chance in chances(55, 60):
            one, other = some_shift(chance, "abc"), some_shift(chance, "abc")
            met = [call(*pair, "ab") for call in (feeds, bars) for pair in ((one, other), (other, one))]
            if met == [None] * 4:
                for word in words:
                    self.assertEqual(other.done(one.done(word)), one.done(other.done(word)))

    def test_shows_met(self):
        for chance in chances(56, 25):
            one, other = some_shift(chance, "abc"), some_shift(chance, "abc")
            for word in plain_words("abc", 4):
                for place in range(-1, len(word) + 1):
                    for made, is_fed in [(Feeds, True), (Bars, False)]:
                        wanted = place in places_met(one, other, word, is_fed)
                        self.assertIs(shows_met(one, other, "abc", made(word, place)), wanted)

    def test_shows_met_of_bent_papers(self):
        one, other = Shift("u", "i"), Shift("k", "c", right="i")
        self.assertIs(shows_met(one, other, "iku", Feeds("kukk", 0)), True)
        self.assertIs(shows_met(one, other, "iku", Feeds("kukkkkkkkkku", 0)), True)
        self.assertIs(shows_met(one, other, "iku", Feeds("kukkkkkkkkkuu", 0)), False)
        self.assertIs(shows_met(one, other, "aiku", Feeds("kua", 0)), True)
        self.assertIs(shows_met(one, other, "iku", Feeds("kua", 0)), False)
        for value in ODD + [Bars("ku", 0), Shift("a", "b")]:
            self.assertIs(shows_met(one, other, "iku", value), False)
        for made, first, word in [(Feeds, one, "kuku"), (Bars, Shift("i", "u"), "kiki")]:
            right = made(word, 0)
            self.assertIs(shows_met(first, other, "iku", right), True)
            self.assertIs(shows_met(first, other, "ik" if made is Feeds else "ku", right), False)
            for parts in bent_parts((word, 0)):
                if len(parts) == 2:
                    kinds = [type(part) for part in parts] == [str, int]
                    wanted = kinds and set(parts[0]) <= set("iku")
                    wanted = wanted and parts[1] in places_met(first, other, parts[0], made is Feeds)
                    self.assertIs(shows_met(first, other, "iku", made(*parts)), wanted, parts)
            for value in strangers(made, word, 0):
                self.assertIs(shows_met(first, other, "iku", value), False)

    def test_wrong(self):
        shift, drop = Shift("a", "b"), Shift("a", "")
        for call, more in [(feeds, ()), (bars, ()), (shows_met, (None,))]:
            for value in ODD + ["a > b / * _ *"]:
                self.assertEqual(error_of(call, value, value, value, *more), ("BadShift", ("one",)))
                self.assertEqual(error_of(call, drop, value, value, *more), ("BadShift", ("other",)))
                self.assertEqual(error_of(call, drop, drop, value, *more), ("BadStock", ("stock",)))
            self.assertEqual(error_of(call, drop, shift, "ab", *more), ("BadShift", ("falls",)))
            self.assertEqual(error_of(call, shift, drop, "ab", *more), ("BadShift", ("falls",)))
