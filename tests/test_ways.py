import unittest
from itertools import combinations

from foretongue.orders import order_of, possible_orders
from foretongue.pairs import Pairs
from foretongue.shifts import Shift
from foretongue.ways import OneWay, TwoWays, alike_orders, one_way, probe
from tests.helper import ODD, chances, error_of, plain_words
from tests.plain_orders import parting_word, plain_made, plain_possible, some_told
from tests.test_orders import NO_ORDER, SOFT, HIGH, THREE, TOLD

FREE = Pairs([SOFT, HIGH, Shift("k", "t")], [])
DROP = Pairs([Shift("h", ""), SOFT], [])
FOUR = Pairs([Shift("a", "b"), Shift("b", "c"), Shift("c", "d"), Shift("d", "e")], [])


def told_ones(seed, times):
    for number, chance in enumerate(chances(seed, times)):
        yield some_told(chance, 1 + number % 3, "abc", honest=0.95)
    for shifts in combinations([SOFT, HIGH, Shift("k", "t"), Shift("u", "i", "k"), Shift("t", "k")], 3):
        yield Pairs(shifts, [])


def parts(told, word):
    """The set of the pairs of possible orders that a word parts."""
    possible = plain_possible(told)
    made = {order: plain_made(told.shifts, order, word) for order in possible}
    return {(one, other) for one, other in combinations(possible, 2) if made[one] != made[other]}


def plain_probe(told, stock, most):
    words = plain_words(stock, most)
    by_word = [(at, parts(told, word)) for at, word in enumerate(words)]
    by_word = [(at, parted) for at, parted in by_word if parted]
    wanted = set().union(*[parted for _, parted in by_word])
    # Words that part the same are tried by the first of them alone: the first tuple has no other.
    first = []
    for at, parted in by_word:
        if parted not in [other for _, other in first]:
            first.append((at, parted))
    for many in range(len(first) + 1):
        for chosen in combinations(first, many):
            if set().union(*[parted for _, parted in chosen]) == wanted:
                return tuple(words[at] for at, _ in chosen)
    return None


class Ways(unittest.TestCase):
    def test_against_all_words(self):
        kinds, stock = [], "abk"
        for told in told_ones(3500, 60):
            stock = "iku" if SOFT in told.shifts else "ab"
            possible = plain_possible(told)
            if not possible:
                for call, more in ((one_way, ()), (alike_orders, ()), (probe, (2,))):
                    self.assertEqual(error_of(call, told, stock, *more), ("Impossible", (order_of(told),)))
                continue
            word, found = parting_word(told, possible, stock), one_way(told, stock)
            kinds.append(found.kind)
            if word is None:
                self.assertEqual(found, OneWay(possible))
            else:
                made = plain_made(told.shifts, possible[0], word)
                second = next(order for order in possible if plain_made(told.shifts, order, word) != made)
                self.assertEqual(found, TwoWays(possible[0], second, word))
            self.assertIs(bool(found), word is None)
            groups = []
            for order in possible:
                near = [group for group in groups if parting_word(told, [group[0], order], stock) is None]
                near[0].append(order) if near else groups.append([order])
            self.assertEqual(alike_orders(told, stock), tuple(tuple(group) for group in groups))
        self.assertGreater(kinds.count("oneway"), 10)
        self.assertGreater(kinds.count("twoways"), 10)

    def test_the_first_order_may_be_like_others(self):
        told = Pairs([HIGH, Shift("k", "t"), SOFT], [])
        found = one_way(told, "iku")
        self.assertEqual(found.first, (0, 1, 2))
        self.assertEqual(found.second, next(order for order in told.orders if found.word in "ki ku" and
                                            plain_made(told.shifts, order, found.word) !=
                                            plain_made(told.shifts, (0, 1, 2), found.word)))

    def test_probes(self):
        lengths = set()
        for told in told_ones(3510, 50):
            stock = "iku" if SOFT in told.shifts else "ab"
            for most in (1, 2, 3):
                if plain_possible(told):
                    found = probe(told, stock, most)
                    lengths.add(len(found))
                    self.assertEqual(found, plain_probe(told, stock, most))
        self.assertLessEqual({0, 1, 2}, lengths)

    def test_four_sounds(self):
        self.assertEqual(probe(FREE, "iku", 4), ("kiku",))
        self.assertEqual(probe(FREE, "k", 4), ())
        self.assertEqual(probe(Pairs([SOFT], []), "iku", 4), ())

    def test_words_of_all_sounds(self):
        """A word of 2 n + 1 sounds can be wanted."""
        told = Pairs([Shift("a", "b", "c", "c"), Shift("c", "d", "b", "b")], [])
        self.assertEqual(one_way(told, "abc").word, parting_word(told, told.orders, "abc"))
        self.assertEqual(one_way(told, "ac").word, parting_word(told, told.orders, "ac"))
        self.assertEqual(len(one_way(told, "ac").word), 5)

    def test_three_shifts_and_seven_sounds(self):
        shifts = [Shift("a", "b", "c", "c"), Shift("c", "d", "b", "b"), Shift("b", "f", "d", "d")]
        told = Pairs(shifts, [("cacac", "cbdbc")])
        self.assertEqual(one_way(told, "ac"), TwoWays((0, 1, 2), (0, 2, 1), "cacacac"))
        self.assertEqual(alike_orders(told, "ac"), (((0, 1, 2),), ((0, 2, 1), (2, 0, 1))))
        self.assertEqual(probe(told, "ac", 4), ())

    def test_wrong(self):
        for call, more in ((one_way, 0), (alike_orders, 0), (probe, 1)):
            for value in ODD:
                self.assertEqual(error_of(call, value, value, *[value] * more), ("BadPairs", ("told",)))
                self.assertEqual(error_of(call, DROP, value, *[value] * more), ("BadStock", ("stock",)))
            self.assertEqual(error_of(call, DROP, "abcde", *[1] * more), ("BadCourse", ("falls",)))
            drop = Pairs([*FOUR.shifts[:3], Shift("d", "")], [])
            self.assertEqual(error_of(call, drop, "abcde", *[1] * more), ("BadCourse", ("falls",)))
            self.assertEqual(error_of(call, FOUR, "abcde", *[1] * more), ("TooMany", ("shifts", 3)))
            self.assertEqual(error_of(call, FREE, "abcd", *[1] * more), ("TooMany", ("words", 4000)))
            self.assertEqual(error_of(call, NO_ORDER, "iku", *[1] * more), ("Impossible", (order_of(NO_ORDER),)))
            many = FREE.with_pair("k", "x")
            self.assertEqual(error_of(call, many, "abcd", *[1] * more), ("TooMany", ("words", 4000)))
            self.assertIsNone(error_of(call, TOLD, "abcde", *[1] * more))
        for value in [0, 5, -1, True, None, 1.0, "1", [1]]:
            self.assertEqual(error_of(probe, DROP, "abcde", value), ("BadNumber", ("most",)))
        self.assertEqual(possible_orders(THREE), plain_possible_tuple(THREE))


def plain_possible_tuple(told):
    return tuple(plain_possible(told))
