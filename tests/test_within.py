import unittest
from itertools import combinations

from foretongue.errors import Impossible
from foretongue.within import Against, OneRule, by_one_rule, coarsest, parted_by, rule_table
from tests.helper import ODD, chances, error_of
from tests.plain_within import (against_in, is_one_lot, plain_coarsest, some_words, sounds_in, surroundings_of,
                                ways_to_share_out)

THIRTEEN = ["a"] * 13
WRONG_WIDE = [0, 3, -1, True, False, None, 1.0, "1", [1], 10 ** 30]
EXCHANGED = {ord("k"): "c", ord("c"): "k", ord("a"): "i", ord("i"): "a"}


def told_plainly(words, sound, other, wide):
    pairs = against_in(words, sound, other, wide)
    if pairs:
        return Against(*pairs[0])
    return OneRule(surroundings_of(words, sound, wide), surroundings_of(words, other, wide))


class ByOneRule(unittest.TestCase):
    def test_all_pairs_of_places(self):
        kinds = set()
        for chance in chances(6000, 300):
            words = some_words(chance, "aikc", 9)
            for sound, other in combinations("acikx", 2):
                for wide in (1, 2):
                    wanted = told_plainly(words, sound, other, wide)
                    kinds.add((wanted.kind, wide))
                    self.assertEqual(by_one_rule(words, sound, other, wide), wanted)
                    turned = by_one_rule(tuple(words), other, sound, wide)
                    self.assertEqual(turned, told_plainly(words, other, sound, wide))
                    self.assertIs(bool(turned), bool(wanted))
                self.assertEqual(by_one_rule(words, sound, other), by_one_rule(words, sound, other, 1))
        self.assertEqual(len(kinds), 4)

    def test_wide_two_is_by_rule_where_wide_one_is(self):
        for chance in chances(6010, 100):
            words = some_words(chance, "aikc", 6)
            if by_one_rule(words, "k", "c", 1):
                self.assertTrue(by_one_rule(words, "k", "c", 2))
            if not by_one_rule(words, "k", "c", 1):
                self.assertFalse(by_one_rule(words + ["kc"], "k", "c", 1))

    def test_other_orders_twice_behind_renamed(self):
        for chance in chances(6020, 100):
            words = some_words(chance, "aikc", 6)
            told = by_one_rule(words, "k", "c")
            twice = by_one_rule(words + words[::-1], "k", "c")
            self.assertEqual(bool(told), bool(twice))
            if told:
                self.assertEqual(by_one_rule(words[::-1], "k", "c"), told)
                self.assertEqual(twice, told)
                backwards = by_one_rule([word[::-1] for word in words], "k", "c")
                self.assertEqual(backwards.one, tuple(sorted((right, left) for left, right in told.one)))
                renamed = by_one_rule([word.translate(EXCHANGED) for word in words], "c", "k")
                self.assertEqual({tuple(side.translate(EXCHANGED) for side in row) for row in renamed.one}, set(told.one))
            else:
                self.assertFalse(by_one_rule([word[::-1] for word in words], "k", "c"))
                self.assertEqual(by_one_rule([word.translate(EXCHANGED) for word in words], "c", "k").parts, told.parts)

    def test_edges(self):
        self.assertEqual(by_one_rule([""], "a", "b"), OneRule((), ()))
        self.assertEqual(by_one_rule(["a", "b"], "b", "a"), Against((1, 0), (0, 0)))
        self.assertEqual(by_one_rule(["kat"], "a", "t", 2), OneRule([("#k", "t#")], [("ka", "##")]))
        self.assertEqual(by_one_rule(["kat"], "a", "t", wide=1).one, (("k", "t"),))
        self.assertEqual(by_one_rule(["aa", "ab", "b", "a"], "a", "b"), Against((0, 1), (1, 1)))
        self.assertTrue(by_one_rule(["a"] * 12, "a", "b"))

    def test_wrong(self):
        for value in ODD + [["a", "A"], ["a", None], "ab", [["a"]], ["a" * 13], {"a": 1}]:
            if value not in (["a"], ("a", "b")):
                self.assertEqual(error_of(by_one_rule, value, value, value, value), ("BadWord", ("words",)), value)
        for value in ODD + ["", "ab", "A", "#", "-"]:
            self.assertEqual(error_of(by_one_rule, THIRTEEN, value, value, 3), ("BadWord", ("sound",)), value)
            self.assertEqual(error_of(by_one_rule, THIRTEEN, "a", value, 3), ("BadWord", ("other",)), value)
        for value in WRONG_WIDE:
            self.assertEqual(error_of(by_one_rule, THIRTEEN, "a", "a", value), ("BadNumber", ("wide",)), value)
        self.assertEqual(error_of(by_one_rule, THIRTEEN, "b", "b"), ("Twice", ("b",)))
        self.assertEqual(error_of(by_one_rule, THIRTEEN, "a", "b"), ("TooMany", ("words", 12)))


class Partings(unittest.TestCase):
    def test_all_ways_to_share_out(self):
        several = 0
        for chance in chances(6030, 120):
            words = some_words(chance, "aikceo"[:chance.randrange(2, 7)], 8, 3)
            for wide in (1, 2):
                wanted = plain_coarsest(words, wide)
                several += len({len(lots) for lots in wanted}) > 1
                self.assertEqual(coarsest(words, wide), wanted)
            self.assertEqual(coarsest(tuple(words)), plain_coarsest(words, 1))
        self.assertGreater(several, 1)

    def test_six_sounds_in_any_ways(self):
        self.assertEqual(len(ways_to_share_out(list("abcdef"))), 203)
        self.assertEqual(coarsest(list("abcdef")), (("a", "b", "c", "d", "e", "f"),))
        self.assertEqual(coarsest(["abcdef"]), (("abcdef",),))

    def test_edges(self):
        self.assertEqual(coarsest([""]), ((),))
        self.assertEqual(coarsest(["", ""], 2), ((),))
        self.assertEqual(coarsest(["aa"]), (("a",),))
        self.assertEqual(coarsest(["a"] * 12), (("a",),))

    def test_wrong(self):
        for value in ODD + [["a", "A"], "ab", [["a"]]]:
            if value not in (["a"], ("a", "b")):
                self.assertEqual(error_of(coarsest, value, value), ("BadWord", ("words",)), value)
        for value in WRONG_WIDE:
            self.assertEqual(error_of(coarsest, ["abcdefg"] * 13, value), ("BadNumber", ("wide",)), value)
        self.assertEqual(error_of(coarsest, ["abcdefg"] * 13), ("TooMany", ("words", 12)))
        self.assertEqual(error_of(coarsest, ["abcd", "efg"]), ("TooMany", ("sounds", 6)))


class Tables(unittest.TestCase):
    def test_any_lot(self):
        for chance in chances(6040, 150):
            words = some_words(chance, "aikc", 8, 3)
            lot = "".join(sorted(chance.sample("aickx", chance.randrange(1, 6))))
            for wide in (1, 2):
                if is_one_lot(words, lot, wide):
                    wanted = tuple(sorted((*sides, sound) for sound in lot for sides in surroundings_of(words, sound, wide)))
                    self.assertEqual(rule_table(words, lot, wide), wanted)
                    self.assertEqual(len({row[:2] for row in wanted}), len(wanted))
                else:
                    one, other = next(pair for pair in combinations(lot, 2) if against_in(words, *pair, wide))
                    with self.assertRaises(Impossible) as caught:
                        rule_table(words, lot, wide)
                    self.assertEqual(caught.exception.paper, told_plainly(words, one, other, wide))
                    self.assertIsInstance(caught.exception.paper, Against)
            self.assertEqual(error_of(rule_table, words, lot) is None, is_one_lot(words, lot, 1))

    def test_edges(self):
        self.assertEqual(rule_table(["ka"], "x"), ())
        self.assertEqual(rule_table([""], "abcdefghijklmnopqrstuvwxyz"), ())
        self.assertEqual(rule_table(["ka"], "ak", 2), (("##", "a#", "k"), ("#k", "##", "a")))

    def test_wrong(self):
        for value in ODD + [["a", "A"], "ab"]:
            if value not in (["a"], ("a", "b")):
                self.assertEqual(error_of(rule_table, value, value, value), ("BadWord", ("words",)), value)
        for value in ODD + ["", "ba", "aa", "a-", "#a", ["a"]]:
            if value not in ("a",):
                self.assertEqual(error_of(rule_table, THIRTEEN, value, value), ("BadStock", ("lot",)), value)
        for value in WRONG_WIDE:
            self.assertEqual(error_of(rule_table, THIRTEEN, "ab", value), ("BadNumber", ("wide",)), value)
        self.assertEqual(error_of(rule_table, ["a", "b"] * 7, "ab"), ("TooMany", ("words", 12)))


class AWordMore(unittest.TestCase):
    def test_against_both_lists(self):
        found = 0
        for chance in chances(6050, 150):
            words, word = some_words(chance, "aikc", 7, 3), some_words(chance, "aikce", 1, 6)[0]
            for wide in (1, 2):
                longer = words + [word]
                wanted = tuple(
                    (one, other, Against(*against_in(longer, one, other, wide)[0]))
                    for one, other in combinations(sounds_in(longer), 2)
                    if against_in(longer, one, other, wide) and not against_in(words, one, other, wide))
                found += len(wanted)
                self.assertEqual(parted_by(words, word, wide), wanted)
            self.assertEqual(parted_by(tuple(words), word), parted_by(words, word, 1))
            self.assertEqual(parted_by(longer, word), ())
        self.assertGreater(found, 100)

    def test_edges(self):
        self.assertEqual(parted_by([""], ""), ())
        self.assertEqual(parted_by(["a"] * 12, "b"), (("a", "b", Against((0, 0), (12, 0))),))
        self.assertEqual(parted_by([""], "aabb"), (("a", "b", Against((1, 1), (1, 2))),))
        self.assertEqual(parted_by([""], "ab"), ())
        self.assertEqual(parted_by(["kx"], "ababa"), ())
        self.assertEqual(parted_by(["kx"], "cakab"), ())
        self.assertEqual(parted_by(["kx"], "acakab"), (("c", "k", Against((1, 1), (1, 3))),))

    def test_wrong(self):
        for value in ODD + [["a", "A"], "ab"]:
            if value not in (["a"], ("a", "b")):
                self.assertEqual(error_of(parted_by, value, value, value), ("BadWord", ("words",)), value)
        for value in ODD + ["a-", "#", "a" * 13]:
            if value not in ("", "a"):
                self.assertEqual(error_of(parted_by, THIRTEEN, value, value), ("BadWord", ("word",)), value)
        for value in WRONG_WIDE:
            self.assertEqual(error_of(parted_by, THIRTEEN, "a", value), ("BadNumber", ("wide",)), value)
        self.assertEqual(error_of(parted_by, THIRTEEN, "a"), ("TooMany", ("words", 12)))
