import unittest

from foretongue import alike, answers, befores, fallen, fates, idle, met, orders, refusing, sureties, ways, zero
from foretongue.papers import Denial, Paper, fixed

CLASSES = [
    (met.Feeds, "feeds", ["word", "place"], Paper),
    (met.Bars, "bars", ["word", "place"], Paper),
    (alike.AllAlike, "allalike", ["most"], Paper),
    (alike.Parted, "parted", ["word", "first", "second"], Denial),
    (idle.Core, "core", ["numbers", "words"], Paper),
    (idle.FirstOrder, "firstorder", ["numbers", "words"], Paper),
    (fallen.LeadsBack, "leadsback", ["couples"], Paper),
    (fallen.Fallen, "fallen", ["one", "other", "outcome"], Denial),
    (fates.Fate, "fate", ["gone", "kept", "moved"], Paper),
    (zero.ZeroMother, "zeromother", ["dyeing", "columns"], Paper),
    (zero.Telling, "telling", ["languages", "pairs"], Paper),
    (refusing.Mother, "mother", ["dyeing"], Paper),
    (refusing.Least, "least", ["dyeing", "tree"], Paper),
    (refusing.NoMother, "nomother", ["tree"], Denial),
    (refusing.Barring, "barring", ["rows", "tree", "others"], Denial),
    (answers.Sure, "sure", ["tree"], Paper),
    (answers.Open, "open", ["one", "other"], Paper),
    (answers.Never, "never", ["tree"], Denial),
    (answers.AtOnce, "atonce", ["dyeing"], Paper),
    (answers.Clash, "clash", ["numbers", "tree", "others"], Denial),
    (sureties.Rows, "rows", ["rows", "tree", "others"], Paper),
    (orders.Fits, "fits", ["order"], Paper),
    (orders.NoOrder, "noorder", ["numbers"], Denial),
    (befores.Ahead, "ahead", ["numbers"], Paper),
    (befores.Behind, "behind", ["numbers"], Denial),
    (befores.Either, "either", ["first", "second"], Paper),
    (befores.AllKept, "allkept", ["pairs"], Paper),
    (befores.Loose, "loose", ["pairs", "order"], Denial),
    (ways.OneWay, "oneway", ["orders"], Paper),
    (ways.TwoWays, "twoways", ["first", "second", "word"], Denial),
]


class Papers(unittest.TestCase):
    def test_fixed(self):
        self.assertEqual(fixed([1, (2, [3, []])]), (1, (2, (3, ()))))
        self.assertEqual(fixed({"a": [1]}), {"a": [1]})
        for value in [None, True, "ab", 5, 1.5]:
            self.assertIs(fixed(value), value)
        deep, flat = [], ()
        for _ in range(59):
            deep, flat = [deep], (flat,)
        self.assertEqual(fixed(deep), flat)

    def test_what_is_passed_is_copied(self):
        told = [1, [2]]
        paper = Paper("note", told)
        told[1].append(3)
        self.assertEqual(paper.parts, ((1, (2,)),))

    def test_truth_and_kind(self):
        self.assertIs(bool(Paper("note")), True)
        self.assertIs(bool(Denial("note", 1)), False)
        self.assertEqual((Denial("note", [1], 2).kind, Denial("note", [1], 2).parts), ("note", ((1,), 2)))
        self.assertTrue(issubclass(Denial, Paper))
        for made in (Paper, Denial):
            for method in ("__init__", "__eq__"):
                self.assertIn(method, vars(made))

    def test_equality(self):
        self.assertTrue(Paper("note", [1]) == Paper("note", (1,)))
        self.assertTrue(Paper("note", 1) == Paper("note", True))
        self.assertFalse(Paper("note", 1) == Paper("other", 1))
        self.assertFalse(Paper("note", 1) == Paper("note", 2))
        self.assertFalse(Paper("note", 1) == Paper("note", 1, 1))
        self.assertFalse(Denial("note") == Paper("note"))
        self.assertFalse(Paper("note") == Denial("note"))
        self.assertTrue(Paper("note", 1) != Paper("note", 2))
        for value in [None, True, "note", ("note", (1,)), 1]:
            self.assertFalse(Paper("note", 1) == value)
            self.assertFalse(value == Paper("note", 1))

    def test_each_class_of_papers(self):
        for made, kind, names, base in CLASSES:
            values = [[index, [name]] for index, name in enumerate(names)]
            paper = made(*values)
            self.assertEqual(paper.kind, kind)
            self.assertEqual(paper.parts, fixed(values))
            self.assertEqual([getattr(paper, name) for name in names], list(fixed(values)))
            self.assertEqual(made(**dict(zip(names, values))), paper)
            self.assertTrue(issubclass(made, base))
            self.assertEqual(issubclass(made, Denial), base is Denial)
            self.assertIs(bool(paper), base is Paper)
            self.assertNotEqual(paper, Paper(kind, *values))
            self.assertNotEqual(Paper(kind, *values), paper)
            self.assertNotEqual(paper, Denial(kind, *values))

    def test_papers_of_two_classes_are_unequal(self):
        self.assertNotEqual(met.Feeds("ka", 0), met.Bars("ka", 0))
        self.assertNotEqual(idle.Core((0,), ()), idle.FirstOrder((0,), ()))

        class Below(met.Feeds):
            pass

        self.assertNotEqual(met.Feeds("ka", 0), Below("ka", 0))
        self.assertNotEqual(Below("ka", 0), met.Feeds("ka", 0))
