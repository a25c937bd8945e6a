import unittest

from foretongue.crossings import (Best, Struck, best, best_trees, comings, crossings, elder, open_sets, struck, sure_sets)
from foretongue.families import Family
from foretongue.trees import tree_of
from tests.helper import ODD, chances, error_of, lists_for_tuples
from tests.plain_families import (FIVE, SETS, count_comings, fewest_to_strike, grown_trees, is_refusing, plain_best,
                                  plain_comings, plain_crossings, plain_elder, some_family, strikes)

PENTAGON = Family(FIVE, [["a", "b"], ["b", "c"], ["c", "d"], ["d", "e"], ["e", "a"]])


class Crossings(unittest.TestCase):
    def test_pairs(self):
        for chance in chances(5100, 100):
            family = some_family(chance)
            self.assertEqual(crossings(family), tuple(plain_crossings(family)))

    def test_struck(self):
        sizes = set()
        for chance in chances(5110, 120):
            family = some_family(chance)
            told = struck(family)
            fewest = fewest_to_strike(family)
            sizes.add(fewest)
            self.assertIsInstance(told, Struck)
            self.assertEqual((len(told.numbers), told.numbers), (fewest, tuple(sorted(set(told.numbers)))))
            self.assertTrue(strikes(family, told.numbers))
            self.assertTrue(tree_of(family.without(told.numbers)))
            if fewest == 0:
                self.assertEqual(told, Struck((), None))
            else:
                self.assertTrue(is_refusing(family, fewest - 1, told.tree))
            self.assertEqual(struck(family), told)
        self.assertGreaterEqual(sizes, {0, 1, 2, 3, 4})

    def test_five_in_a_ring(self):
        told = struck(PENTAGON)
        self.assertEqual(len(told.numbers), 3)
        self.assertTrue(is_refusing(PENTAGON, 2, told.tree))
        self.assertEqual(best(PENTAGON).many, 8)


class Comings(unittest.TestCase):
    def test_in_any_tree(self):
        for chance in chances(5120, 60):
            family = some_family(chance)
            for tree in chance.sample(grown_trees(family.languages), 1) * 3 + grown_trees(family.languages)[:3]:
                wanted = tuple(plain_comings(sharing, tree) for sharing in family.sharings)
                self.assertEqual(comings(family, tree), wanted)
                self.assertEqual(comings(family, lists_for_tuples(tree)), wanted)
                for sharing, told in zip(family.sharings, wanted):
                    self.assertEqual(tuple(sorted(name for one in told for name in one)), sharing)
                    self.assertIs(len(told) == 1, sharing in tree)

    def test_best_trees(self):
        unlike = set()
        for chance in chances(5130, 60):
            family = some_family(chance)
            fewest, trees = plain_best(family)
            self.assertEqual(best_trees(family), tuple(trees))
            told = best(family)
            self.assertIsInstance(told, Best)
            self.assertIn(told.sets, trees)
            self.assertEqual((told.many, count_comings(family, told.sets)), (fewest, fewest))
            self.assertEqual(best(family), told)
            self.assertGreaterEqual(fewest, len(family) + fewest_to_strike(family))
            self.assertIs(fewest == len(family), bool(tree_of(family)))
            sets = sorted({one for tree in trees for one in tree})
            sure = tuple(one for one in sets if all(one in tree for tree in trees))
            self.assertEqual(sure_sets(family), sure)
            self.assertEqual(open_sets(family), tuple(one for one in sets if one not in sure))
            unlike.add((len(sure) > 1, len(sure) < len(sets)))
            free = [sharing for at, sharing in enumerate(family.sharings)
                    if not any(at in pair for pair in plain_crossings(family))]
            self.assertLessEqual(set(free), set(sure))
        self.assertEqual(len(unlike), 4)

    def test_elder(self):
        words = set()
        for chance in chances(5140, 40):
            family = some_family(chance)
            _, trees = plain_best(family)
            for one in range(len(family)):
                for other in range(len(family)):
                    if one != other:
                        told = [plain_elder(family, tree, one, other) for tree in trees]
                        wanted = "sure" if all(told) else "open" if any(told) else "never"
                        words.add(wanted)
                        self.assertEqual(elder(family, one, other), wanted)
        self.assertEqual(words, {"sure", "open", "never"})

    def test_a_sharing_more_and_one_less(self):
        for chance in chances(5150, 40):
            family = some_family(chance, 7)
            sets = [lot for lot in SETS if set(lot) <= set(family.languages) and lot not in family.sharings]
            if sets:
                more = Family(family.languages, [*family.sharings, chance.choice(sets)])
                self.assertEqual(more.without([len(family)]), family)
                self.assertIn(len(struck(more).numbers) - len(struck(family).numbers), (0, 1))
                self.assertGreater(best(more).many, best(family).many)
                self.assertEqual(crossings(more)[:0] + tuple(pair for pair in crossings(more) if len(family) not in pair),
                                 crossings(family))

    def test_sharings_in_another_order(self):
        for chance in chances(5160, 40):
            family = some_family(chance)
            order = chance.sample(range(len(family)), len(family))
            turned = Family(family.languages, [family.sharings[at] for at in order])
            self.assertEqual(best_trees(turned), best_trees(family))
            self.assertEqual((sure_sets(turned), open_sets(turned)), (sure_sets(family), open_sets(family)))
            self.assertEqual(len(struck(turned).numbers), len(struck(family).numbers))

    def test_one_language_and_no_sharings(self):
        alone, free = Family(["x"], []), Family(["x", "y"], [])
        self.assertEqual((best(alone), best_trees(alone), sure_sets(alone), open_sets(alone)), (Best((), 0), ((),), (), ()))
        self.assertEqual((best(free), sure_sets(free)), (Best([["x", "y"]], 0), (("x", "y"),)))
        self.assertEqual((struck(free), crossings(free), comings(free, [["x", "y"]])), (Struck([], None), (), ()))


class Wrong(unittest.TestCase):
    def test_families(self):
        for value in ODD + ["a b : a b", Family]:
            for call in (crossings, struck, best, best_trees, sure_sets, open_sets):
                self.assertEqual(error_of(call, value), ("BadFamily", ("family",)))
            self.assertEqual(error_of(comings, value, value), ("BadFamily", ("family",)))
            self.assertEqual(error_of(elder, value, value, value), ("BadFamily", ("family",)))

    def test_trees(self):
        for value in ODD + [[["a", "b"]], [["a", "b"], ["c", "d"]], best(PENTAGON), best(PENTAGON).sets[:-1],
                            [one[::-1] for one in best(PENTAGON).sets], best(PENTAGON).sets[::-1]]:
            self.assertEqual(error_of(comings, PENTAGON, value), ("BadFamily", ("tree",)))

    def test_numbers(self):
        for value in [5, -1, True, False, None, "1", 1.0, [1], 10 ** 40]:
            self.assertEqual(error_of(elder, PENTAGON, value, value), ("BadNumber", ("one",)))
            self.assertEqual(error_of(elder, PENTAGON, 0, value), ("BadNumber", ("other",)))
        self.assertEqual(error_of(elder, PENTAGON, 3, 3), ("Twice", (3,)))
        self.assertEqual(error_of(elder, Family(["a"], []), 0, 0), ("BadNumber", ("one",)))
