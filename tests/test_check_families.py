import unittest

from foretongue.check_families import shows_best, shows_struck, shows_tree
from foretongue.crossings import Best, Struck, best, struck
from foretongue.families import Family
from foretongue.trees import Crossing, Tree, tree_of
from tests.helper import ODD, bent_parts, chances, error_of, lists_for_tuples, strangers
from tests.plain_families import (FIVE, count_comings, grown_trees, is_refusing, plain_best, plain_crossings, some_family,
                                  strikes, trees_of)
from tests.plain_mothers import is_number, tuples

FAMILY = Family(["a", "b", "c", "d"], [["a", "b"], ["b", "c"], ["a", "b", "c"]])
RING = Family(FIVE, [["a", "b"], ["b", "c"], ["c", "d"], ["d", "e"], ["e", "a"]])


def is_lot(numbers, many):
    if type(numbers) is not tuple or not all(is_number(number) and 0 <= number < many for number in numbers):
        return False
    return list(numbers) == sorted(set(numbers))


def is_struck(family, numbers, tree):
    if not is_lot(numbers, len(family)) or not strikes(family, numbers):
        return False
    return tree is None if numbers == () else is_refusing(family, len(numbers) - 1, tree)


def is_in(value, trees):
    """Whether a value is one of some trees; of parts that are no strings none is."""
    return any(value == tree for tree in trees)


def is_best(family, sets, many):
    fewest, trees = plain_best(family)
    return is_number(many) and many == fewest and is_in(sets, trees)


def are_crossing(family, one, other):
    return is_number(one) and is_number(other) and (one, other) in plain_crossings(family)


class CheckFamilies(unittest.TestCase):
    def test_any_tree(self):
        for chance in chances(5200, 40):
            family = some_family(chance, 3)
            self.assertIs(shows_tree(family, tree_of(family)), True)
            for tree in grown_trees(family.languages)[::3]:
                self.assertIs(shows_tree(family, Tree(lists_for_tuples(tree))), tree in trees_of(family))
                self.assertIs(shows_best(family, Best(tree, count_comings(family, tree))), tree in plain_best(family)[1])
            for one in range(-1, len(family) + 1):
                for other in range(-1, len(family) + 1):
                    wanted = (one, other) in plain_crossings(family)
                    self.assertIs(shows_tree(family, Crossing(one, other)), wanted)

    def test_bent_trees(self):
        for family in [FAMILY.without([1]), FAMILY.without([0, 1]), Family(["a"], []), Family(["b", "a"], [["a", "b"]])]:
            told = tree_of(family)
            for bent in bent_parts(told.parts):
                if len(bent) == 1:
                    wanted = is_in(tuples(bent[0]), trees_of(family))
                    self.assertIs(shows_tree(family, Tree(*bent)), wanted, bent)
        for bent in bent_parts((0, 1)):
            if len(bent) == 2:
                self.assertIs(shows_tree(FAMILY, Crossing(*bent)), are_crossing(FAMILY, *bent), bent)

    def test_any_struck(self):
        found = 0
        for chance in chances(5210, 60):
            family = some_family(chance)
            told = struck(family)
            self.assertIs(shows_struck(family, told), True)
            self.assertIs(shows_struck(family, Struck(lists_for_tuples(told.numbers), lists_for_tuples(told.tree))), True)
            for _ in range(5):
                numbers = sorted(chance.sample(range(len(family)), len(told.numbers)))
                wanted = is_struck(family, tuple(numbers), told.tree)
                found += wanted
                self.assertIs(shows_struck(family, Struck(numbers, told.tree)), wanted)
            other = some_family(chance)
            wanted = is_struck(other, told.numbers, told.tree)
            self.assertIs(shows_struck(other, told), wanted)
        self.assertGreater(found, 30)

    def test_bent_struck(self):
        right = 0
        for family in [FAMILY, RING, Family(FIVE, [["a", "b"], ["b", "c"], ["a", "c"]]), FAMILY.without([1])]:
            told = struck(family)
            for bent in bent_parts(told.parts):
                if len(bent) == 2:
                    wanted = is_struck(family, *tuples(bent))
                    right += wanted
                    self.assertIs(shows_struck(family, Struck(*bent)), wanted, bent)
        self.assertGreater(right, 2)

    def test_bent_best(self):
        for family in [FAMILY, Family(["a"], []), FAMILY.without([0])]:
            told = best(family)
            self.assertIs(shows_best(family, told), True)
            for bent in bent_parts(told.parts):
                if len(bent) == 2:
                    self.assertIs(shows_best(family, Best(*bent)), is_best(family, *tuples(bent)), bent)

    def test_too_shallow_and_too_deep_trees(self):
        tree = struck(RING).tree
        self.assertIs(shows_struck(RING, Struck(struck(RING).numbers, tree[:2])), False)
        self.assertIs(shows_struck(RING, Struck(struck(RING).numbers, (*tree[:2], tree[2]))), False)
        self.assertIs(shows_struck(FAMILY, Struck([0], (0, 1, (0, 1), (0, 1)))), False)
        deep = (0, 1)
        for _ in range(29):
            deep = (0, 1, deep, (0, 1))
        self.assertIs(shows_struck(RING, Struck((0, 1, 3), deep)), False)

    def test_any_other_value(self):
        told, crossed, strike, nearest = tree_of(FAMILY.without([0])), tree_of(FAMILY), struck(FAMILY), best(FAMILY)
        for value in ODD + strangers(Tree, *told.parts) + [strike, nearest, crossed]:
            self.assertIs(shows_tree(FAMILY.without([0]), value), False)
        for value in ODD + strangers(Crossing, *crossed.parts) + [strike, nearest, told]:
            self.assertIs(shows_tree(FAMILY, value), False)
        for value in ODD + strangers(Struck, *strike.parts) + [told, nearest, crossed]:
            self.assertIs(shows_struck(FAMILY, value), False)
        for value in ODD + strangers(Best, *nearest.parts) + [told, strike, crossed]:
            self.assertIs(shows_best(FAMILY, value), False)

    def test_wrong(self):
        for call in (shows_tree, shows_struck, shows_best):
            for value in ODD + [tree_of(FAMILY), "a : -", Family]:
                self.assertEqual(error_of(call, value, value), ("BadFamily", ("family",)))
