import unittest
from itertools import combinations

from foretongue.families import Family
from foretongue.trees import Crossing, Tree, all_trees, is_tree, many_trees, tree_at, tree_of
from tests.helper import ODD, bent_parts, chances, error_of, lists_for_tuples
from tests.plain_families import FIVE, cross, grown_trees, plain_crossings, some_family, trees_of
from tests.plain_mothers import tuples

MANY = [1, 1, 3, 15, 105]


def is_plain_tree(languages, value):
    """The document's words, set by set: nested or apart, each made of just two."""
    if type(value) is not tuple or any(type(one) is not tuple for one in value):
        return False
    if any(type(name) is not str for one in value for name in one):
        return False
    if list(value) != sorted(set(value)) or any(list(one) != sorted(set(one)) for one in value):
        return False
    if any(len(one) < 2 or not set(one) <= set(languages) for one in value):
        return False
    if len(languages) == 1:
        return value == ()
    if tuple(sorted(languages)) not in value or any(cross(*pair) for pair in combinations(value, 2)):
        return False
    parts = [set(one) for one in value] + [{name} for name in languages]
    return all(any(not one & other and one | other == set(whole) for one, other in combinations(parts, 2)) for whole in value)


class Trees(unittest.TestCase):
    def test_all_trees(self):
        for many in range(1, 6):
            for chance in chances(5000 + many, 4):
                languages = chance.sample(["a", "b", "c1", "c", "zz", "x"], many)
                wanted = tuple(grown_trees(languages))
                self.assertEqual(all_trees(languages), wanted)
                self.assertEqual(all_trees(tuple(languages)), wanted)
                self.assertEqual((len(wanted), len(set(wanted))), (MANY[many - 1], MANY[many - 1]))
                self.assertTrue(all(is_plain_tree(languages, tree) for tree in wanted))

    def test_is_tree(self):
        for many in range(1, 6):
            for chance in chances(5010 + many, 6):
                languages = chance.sample(FIVE, many)
                tree = chance.choice(grown_trees(languages))
                self.assertIs(is_tree(languages, tree), True)
                self.assertIs(is_tree(tuple(languages), lists_for_tuples(tree)), True)
                for bent in bent_parts((tree,)):
                    if len(bent) == 1:
                        self.assertIs(is_tree(languages, *bent), is_plain_tree(languages, tuples(bent[0])), bent)

    def test_sets_put_in_left_out_changed(self):
        right = 0
        for chance in chances(5020, 400):
            languages = FIVE[:chance.randrange(2, 6)]
            sets = [list(one) for one in chance.choice(grown_trees(languages))]
            at = chance.randrange(len(sets))
            other = sorted(chance.sample(languages, chance.randrange(1, len(languages) + 1)))
            for bent in (sets[:at] + sets[at + 1:], sets + [other], sorted(sets + [other]), sets[:at] + [other] + sets[at + 1:],
                         sorted(sets[:at] + [other] + sets[at + 1:]), sets[::-1], sets[:at] + [sets[at]] + sets[at:],
                         sets[:at] + [sets[at][::-1]] + sets[at + 1:]):
                wanted = is_plain_tree(languages, tuples(bent))
                right += wanted
                self.assertIs(is_tree(languages, bent), wanted, bent)
        self.assertGreater(right, 100)

    def test_other_values(self):
        for value in ODD + ["ab", ["ab"], [["a", "b"], "ab"], [("a", None)], [{"a": 1, "b": 1}], [["a", ["b"]]]]:
            self.assertIs(is_tree(["a", "b"], value), False)
            self.assertIs(is_tree(["a"], value), value in ([], ()))
        self.assertIs(is_tree(["b", "a"], [["a", "b"]]), True)
        for value in [[["a", "b", "c"], ["a", "b", "c", "x"]], [["a", "b", "c"], ["x", "y"]], [["a", "b", "c"], ["b", "x"]]]:
            self.assertIs(is_tree(["a", "b", "c"], value), False)

    def test_a_family_has_them(self):
        kinds = set()
        for chance in chances(5030, 150):
            family = some_family(chance, 4)
            wanted = trees_of(family)
            told = tree_of(family)
            kinds.add((told.kind, bool(told)))
            if wanted:
                self.assertIsInstance(told, Tree)
                self.assertIn(told.sets, wanted)
            else:
                self.assertIsInstance(told, Crossing)
                self.assertIn(told.parts, plain_crossings(family))
            self.assertEqual(tree_of(family), told)
            self.assertEqual(many_trees(family), len(wanted))
            self.assertEqual([tree_at(family, number) for number in range(len(wanted))], wanted)
            for number in [len(wanted), -1, 10 ** 30, True, None, "0", 0.0, [0]]:
                self.assertEqual(error_of(tree_at, family, number), ("BadNumber", ("number",)))
        self.assertEqual(kinds, {("tree", True), ("crossing", False)})

    def test_some_tree_if_no_two_cross(self):
        for chance in chances(5040, 100):
            family = some_family(chance)
            self.assertIs(bool(tree_of(family)), plain_crossings(family) == [])

    def test_one_language_and_no_sharings(self):
        alone = Family(["x"], [])
        self.assertEqual((tree_of(alone), many_trees(alone), tree_at(alone, 0)), (Tree(()), 1, ()))
        free = Family(FIVE, [])
        self.assertEqual(many_trees(free), 105)
        self.assertEqual(tuple(tree_at(free, number) for number in range(105)), all_trees(FIVE))
        self.assertEqual(many_trees(Family(FIVE, [FIVE])), 105)

    def test_many_by_a_product(self):
        self.assertEqual(many_trees(Family(FIVE, [["a", "b", "c"]])), 9)
        self.assertEqual(many_trees(Family(FIVE, [["a", "b"], ["c", "d"]])), 3)
        self.assertEqual(many_trees(Family(FIVE, [["a", "b", "c", "d"]])), 15)

    def test_wrong_languages(self):
        for call in (lambda languages: is_tree(languages, None), all_trees):
            for value in ODD + ["ab", ["a", "A"], [["a"]], ["a", None], ["1"], ["a" * 13], {"a": 1}]:
                if value not in (["a"], ("a", "b")):
                    self.assertEqual(error_of(call, value), ("BadFamily", ("languages",)), value)
            self.assertEqual(error_of(call, ["a", "b", "b", "a"]), ("Twice", ("b",)))
            self.assertEqual(error_of(call, FIVE + ["a"]), ("Twice", ("a",)))
            self.assertEqual(error_of(call, FIVE + ["f"]), ("TooMany", ("languages", 5)))

    def test_wrong_families(self):
        for value in ODD + ["a b : a b", Family]:
            self.assertEqual(error_of(tree_of, value), ("BadFamily", ("family",)))
            self.assertEqual(error_of(many_trees, value), ("BadFamily", ("family",)))
            self.assertEqual(error_of(tree_at, value, value), ("BadFamily", ("family",)))
