import unittest

from foretongue import (alike, answers, asking, befores, crossings, fallen, fates, gaps, idle, met, orders, refusing, rules,
                        strangers, sureties, trees, ways, within, zero)
from foretongue.papers import Denial, Paper, fixed
from tests.helper import chances

CLASSES = [
    (met.Feeds, "feeds", ["word", "place"], Paper),
    (met.Bars, "bars", ["word", "place"], Paper),
    (alike.AllAlike, "allalike", ["most"], Paper),
    (alike.Parted, "parted", ["word", "first", "second"], Denial),
    (idle.Core, "core", ["numbers", "words"], Paper),
    (idle.FirstOrder, "firstorder", ["numbers", "words"], Paper),
    (fallen.LeadsBack, "leadsback", ["couples"], Paper),
    (fallen.Fallen, "fallen", ["one", "other", "outcome"], Denial),
    (fates.Fate, "fate", ["gone", "kept", "moved"], Paper),
    (zero.ZeroMother, "zeromother", ["dyeing", "columns"], Paper),
    (zero.Telling, "telling", ["languages", "pairs"], Paper),
    (refusing.Mother, "mother", ["dyeing"], Paper),
    (refusing.Least, "least", ["dyeing", "tree"], Paper),
    (refusing.NoMother, "nomother", ["tree"], Denial),
    (refusing.Barring, "barring", ["rows", "tree", "others"], Denial),
    (answers.Sure, "sure", ["tree"], Paper),
    (answers.Open, "open", ["one", "other"], Paper),
    (answers.Never, "never", ["tree"], Denial),
    (answers.AtOnce, "atonce", ["dyeing"], Paper),
    (answers.Clash, "clash", ["numbers", "tree", "others"], Denial),
    (sureties.Rows, "rows", ["rows", "tree", "others"], Paper),
    (orders.Fits, "fits", ["order"], Paper),
    (orders.NoOrder, "noorder", ["numbers"], Denial),
    (befores.Ahead, "ahead", ["numbers"], Paper),
    (befores.Behind, "behind", ["numbers"], Denial),
    (befores.Either, "either", ["first", "second"], Paper),
    (befores.AllKept, "allkept", ["pairs"], Paper),
    (befores.Loose, "loose", ["pairs", "order"], Denial),
    (ways.OneWay, "oneway", ["orders"], Paper),
    (ways.TwoWays, "twoways", ["first", "second", "word"], Denial),
    (trees.Tree, "tree", ["sets"], Paper),
    (trees.Crossing, "crossing", ["one", "other"], Denial),
    (crossings.Struck, "struck", ["numbers", "tree"], Paper),
    (crossings.Best, "best", ["sets", "many"], Paper),
    (strangers.Strangers, "strangers", ["rows", "dyeing", "bars"], Paper),
    (strangers.Layers, "layers", ["rows", "one", "other"], Paper),
    (strangers.NoLayers, "nolayers", ["bars"], Denial),
    (within.OneRule, "onerule", ["one", "other"], Paper),
    (within.Against, "against", ["one", "other"], Denial),
    (rules.Ruled, "ruled", ["rows"], Paper),
    (rules.Split, "split", ["one", "other"], Denial),
    (gaps.Filled, "filled", ["cells", "dyeing"], Paper),
    (gaps.ForcedCell, "forcedcell", ["cell"], Paper),
    (gaps.OpenCell, "opencell", ["cells"], Paper),
    (gaps.NoFilling, "nofilling", [], Denial),
    (asking.Ask, "ask", ["row", "language", "left"], Paper),
    (asking.Key, "key", ["gaps"], Paper),
    (asking.Tells, "tells", ["sure", "never", "either"], Paper),
    (asking.Settled, "settled", ["gaps"], Paper),
]


def some_value(chance, deep):
    """A list, a tuple, a text, an integer, None, True or a paper, up to so deep."""
    way = chance.randrange(9 if deep else 5)
    if way < 5:
        return [None, True, chance.randrange(-2, 3), chance.choice(["", "a", "1"]), 10 ** 20][way]
    parts = [some_value(chance, deep - 1) for _ in range(chance.randrange(4))]
    if way < 7:
        return parts if way == 5 else tuple(parts)
    return (Paper if way == 7 else Denial)(chance.choice(["note", "x"]), *parts)


def spread_out(value):
    """A value that is equal just to values that are equal with it, tuples and lists taken for one another."""
    if isinstance(value, (list, tuple)):
        return ["tuple", *map(spread_out, value)]
    if isinstance(value, Paper):
        return [type(value).__name__, value.kind, *map(spread_out, value.parts)]
    return value


def changed_lists(value):
    """Changes each list in a value, all the way in."""
    if isinstance(value, (list, tuple)):
        for part in value:
            changed_lists(part)
    if isinstance(value, list):
        value.append("changed")


class Papers(unittest.TestCase):
    def test_fixed(self):
        self.assertEqual(fixed([1, (2, [3, []])]), (1, (2, (3, ()))))
        self.assertEqual(fixed({"a": [1]}), {"a": [1]})
        for value in [None, True, "ab", 5, 1.5]:
            self.assertIs(fixed(value), value)
        deep, flat = [], ()
        for _ in range(59):
            deep, flat = [deep], (flat,)
        self.assertEqual(fixed(deep), flat)

    def test_what_is_passed_is_copied(self):
        told = [1, [2]]
        paper = Paper("note", told)
        told[1].append(3)
        self.assertEqual(paper.parts, ((1, (2,)),))

    def test_truth_and_kind(self):
        self.assertIs(bool(Paper("note")), True)
        self.assertIs(bool(Denial("note", 1)), False)
        self.assertEqual((Denial("note", [1], 2).kind, Denial("note", [1], 2).parts), ("note", ((1,), 2)))
        self.assertTrue(issubclass(Denial, Paper))
        for made in (Paper, Denial):
            for method in ("__init__", "__eq__"):
                self.assertIn(method, vars(made))

    def test_equality(self):
        self.assertTrue(Paper("note", [1]) == Paper("note", (1,)))
        self.assertTrue(Paper("note", 1) == Paper("note", True))
        self.assertFalse(Paper("note", 1) == Paper("other", 1))
        self.assertFalse(Paper("note", 1) == Paper("note", 2))
        self.assertFalse(Paper("note", 1) == Paper("note", 1, 1))
        self.assertFalse(Denial("note") == Paper("note"))
        self.assertFalse(Paper("note") == Denial("note"))
        self.assertTrue(Paper("note", 1) != Paper("note", 2))
        for value in [None, True, "note", ("note", (1,)), 1]:
            self.assertFalse(Paper("note", 1) == value)
            self.assertFalse(value == Paper("note", 1))

    def test_each_class_of_papers(self):
        for made, kind, names, base in CLASSES:
            values = [[index, [name]] for index, name in enumerate(names)]
            paper = made(*values)
            self.assertEqual(paper.kind, kind)
            self.assertEqual(paper.parts, fixed(values))
            self.assertEqual([getattr(paper, name) for name in names], list(fixed(values)))
            self.assertEqual(made(**dict(zip(names, values))), paper)
            self.assertTrue(issubclass(made, base))
            self.assertEqual(issubclass(made, Denial), base is Denial)
            self.assertIs(bool(paper), base is Paper)
            self.assertNotEqual(paper, Paper(kind, *values))
            self.assertNotEqual(Paper(kind, *values), paper)
            self.assertNotEqual(paper, Denial(kind, *values))

    def test_every_class_of_papers_is_here(self):
        told = {made for made, _, _, _ in CLASSES}
        below = [made for base in (Paper, Denial) for made in base.__subclasses__()
                 if made is not Denial and made.__module__.startswith("foretongue.")]
        self.assertEqual({made for made in below if not made.__name__.startswith("Below")}, told)
        self.assertEqual(len(CLASSES), 49)
        self.assertEqual(len({kind for _, kind, _, _ in CLASSES}), 49)

    def test_any_parts(self):
        for chance in chances(9600, 150):
            made, kind, names, _ = chance.choice(CLASSES)
            values = [some_value(chance, 5) for _ in names]
            wanted = [spread_out(value) for value in values]
            one, other = made(*values), made(**dict(zip(names, values)))
            self.assertEqual(one, other)
            self.assertEqual((one.kind, one.parts), (kind, fixed(values)))
            for value in values:
                changed_lists(value)
            self.assertEqual([spread_out(part) for part in one.parts], wanted)
            self.assertEqual([spread_out(getattr(one, name)) for name in names], wanted)
            self.assertEqual(one, other)

    def test_equal_just_with_equal_parts(self):
        equal = 0
        for chance in chances(9610, 400):
            made = chance.choice([made for made, _, names, _ in CLASSES if len(names) == 1])
            one, other = (some_value(chance, 2) for _ in range(2))
            wanted = spread_out(one) == spread_out(other)
            equal += wanted
            self.assertIs(made(one) == made(other), wanted)
            self.assertIs(made(one) != made(other), not wanted)
            self.assertIs(Paper("x", one) == Paper("x", other), wanted)
        self.assertGreater(equal, 20)

    def test_papers_of_two_classes_are_unequal(self):
        self.assertNotEqual(met.Feeds("ka", 0), met.Bars("ka", 0))
        self.assertNotEqual(idle.Core((0,), ()), idle.FirstOrder((0,), ()))

        class Below(met.Feeds):
            pass

        self.assertNotEqual(met.Feeds("ka", 0), Below("ka", 0))
        self.assertNotEqual(Below("ka", 0), met.Feeds("ka", 0))
