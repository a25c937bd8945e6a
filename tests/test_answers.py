import unittest

from foretongue.answers import AtOnce, Clash, Never, Open, Sure, answer, kept_at_once
from foretongue.errors import Impossible
from foretongue.refusing import mother_of
from foretongue.sayings import AlikeRows, Not, Same, Sizes
from foretongue.sheets import Sheet
from tests.helper import ODD, chances, error_of
from tests.plain_mothers import (NINE, check_errors, plain_holds, plain_mothers, plain_right_tree, plain_settled, some_saying,
                                 some_whole_sheet)

SHEET = Sheet(["one", "two"], [["sa", "sa"], ["si", "zi"]])


def aim(sheet, most, saying, truth):
    """Whether None can stand where this is dyed, in a tree with an aim."""
    return lambda dyed: plain_settled(saying, sheet, dyed, most) is truth


def clash_ends(sheet, most, sayings):
    """Whether None can stand where this is dyed, in a tree for several sayings at once."""
    return lambda dyed: any(plain_settled(saying, sheet, dyed, most) is False for saying in sayings)


def impossible(case, call, sheet, width, most, *told):
    """A call raises Impossible with the NoMother that mother_of tells."""
    with case.assertRaises(Impossible) as caught:
        call(sheet, width, most, *told)
    case.assertEqual(caught.exception.paper, mother_of(sheet, width, most))
    case.assertEqual(caught.exception.paper.kind, "nomother")


def errors_of_saying(case, call, wrong, more=0):
    """The errors of a sheet, a width, a greatest size and what is told of sayings, in their order."""
    check_errors(case, call, True, 1 + more)
    for value, part in wrong:
        case.assertEqual(error_of(call, NINE, 1, 1, value, *[None] * more), ("BadSaying", (part,)))


class Answers(unittest.TestCase):
    def test_against_all_mothers(self):
        kinds = []
        for chance in chances(2400, 60):
            sheet = some_whole_sheet(chance, 6)
            for _ in range(8):
                width, most, saying = chance.randrange(2), chance.randrange(1, 9), some_saying(chance, sheet)
                found = plain_mothers(sheet, width, most)
                if not found:
                    impossible(self, answer, sheet, width, most, saying)
                    continue
                truths = {plain_holds(saying, sheet, dyeing) for dyeing in found}
                told = answer(sheet, width, most, saying)
                kinds.append(told.kind)
                if len(truths) == 2:
                    self.assertIsInstance(told, Open)
                    self.assertTrue(told.one in found and plain_holds(saying, sheet, told.one))
                    self.assertTrue(told.other in found and not plain_holds(saying, sheet, told.other))
                else:
                    self.assertIsInstance(told, Sure if True in truths else Never)
                    ends = aim(sheet, most, saying, True in truths)
                    self.assertTrue(plain_right_tree(sheet, width, most, told.tree, ends))
                self.assertIs(bool(told), told.kind != "never")
                self.assertEqual(answer(sheet, width, most, saying), told)
        for kind in ("sure", "never", "open"):
            self.assertGreater(kinds.count(kind), 30)

    def test_all_unlike_is_a_mother(self):
        for chance in chances(2410, 20):
            sheet = some_whole_sheet(chance, 6)
            for at, place in enumerate(sheet.places):
                for other in sheet.places[:at]:
                    self.assertIn(answer(sheet, 1, 8, Same(place, other)).kind, ("open", "never"))
                    self.assertIn(answer(sheet, 1, len(sheet.places), Same(place, other)).kind, ("open", "never"))

    def test_with_rows_more(self):
        for chance in chances(2420, 60):
            sheet = some_whole_sheet(chance, 6)
            if len(sheet.rows) > 2:
                part, most = sheet.of_rows([0, 1]), chance.randrange(2, 6)
                saying = chance.choice([Same((0, 0), (1, 0)), AlikeRows(0, 1), Not(AlikeRows(1, 0))])
                if plain_mothers(sheet, 1, most):
                    elder, told = answer(part, 1, most, saying).kind, answer(sheet, 1, most, saying).kind
                    self.assertTrue(elder == "open" or told == elder)
                    elder = answer(part, 1, most, Sizes(3)).kind
                    self.assertTrue(elder != "sure" or answer(sheet, 1, most, Sizes(3)).kind == "sure")

    def test_settled_at_once(self):
        self.assertEqual(answer(SHEET, 1, 4, Sizes(9)), Never(None))
        self.assertEqual(answer(SHEET, 1, 4, Not(Sizes(5))), Sure(None))
        uneven = Sheet(["x"], [["ab"], ["a"]])
        self.assertEqual(answer(uneven, 1, 4, AlikeRows(0, 1)), Never(None))

    def test_eight_places(self):
        sheet = Sheet(["x"], [["aaaa"], ["aaaa"]])
        self.assertEqual(answer(sheet, 1, 8, Same((0, 0), (1, 3))).kind, "open")
        self.assertEqual(answer(sheet, 0, 1, AlikeRows(0, 1)).kind, "sure")

    def test_wrong(self):
        errors_of_saying(self, answer, [(value, "saying") for value in ODD + ["size 3", [Sizes(3)]]])
        self.assertEqual(error_of(answer, NINE, 1, 8, Same((0, 9), (1, 0))), ("NoPlace", ((0, 9),)))
        self.assertEqual(error_of(answer, NINE, 1, 8, Not(AlikeRows(0, 1))), ("NoRow", (1,)))
        self.assertEqual(error_of(answer, NINE, 1, 8, Sizes(1)), ("TooMany", ("places", 8)))


class AtOnceOrNot(unittest.TestCase):
    def test_against_all_mothers(self):
        sizes, kept = [], 0
        for chance in chances(2500, 150):
            sheet = some_whole_sheet(chance, 6)
            for _ in range(5):
                width, most = chance.randrange(2), chance.randrange(1, 9)
                sayings = [some_saying(chance, sheet, 1) for _ in range(chance.randrange(1, 7))]
                found = plain_mothers(sheet, width, most)
                if not found:
                    impossible(self, kept_at_once, sheet, width, most, sayings)
                    continue
                holding = [[plain_holds(saying, sheet, dyeing) for saying in sayings] for dyeing in found]
                told = kept_at_once(sheet, width, most, tuple(sayings))
                if any(all(row) for row in holding):
                    kept += 1
                    self.assertIsInstance(told, AtOnce)
                    self.assertTrue(all(holding[found.index(told.dyeing)]))
                    continue
                self.assertIsInstance(told, Clash)
                numbers = told.numbers
                sizes.append(len(numbers))
                self.assertEqual(numbers, tuple(sorted(set(numbers))))
                self.assertEqual(len(told.others), len(numbers))
                for number, dyeing in zip(numbers, told.others):
                    row = holding[found.index(dyeing)]
                    self.assertTrue(all(row[other] for other in numbers if other != number))
                ends = clash_ends(sheet, most, [sayings[number] for number in numbers])
                self.assertTrue(plain_right_tree(sheet, width, most, told.tree, ends))
                self.assertEqual(kept_at_once(sheet, width, most, sayings), told)
        self.assertGreater(kept, 50)
        self.assertLessEqual({1, 2}, set(sizes))

    def test_one_that_never_holds(self):
        told = kept_at_once(SHEET, 1, 4, [Sizes(2), Sizes(9), Sizes(3)])
        self.assertEqual((told.numbers, told.tree), ((1,), None))
        self.assertIn(told.others[0], plain_mothers(SHEET, 1, 4))

    def test_wrong(self):
        wrong = [value for value in ODD] + [[Sizes(1)] * 7, [Sizes(1), None], Sizes(1), ["size 1"], (Sizes(1), Sizes)]
        errors_of_saying(self, kept_at_once, [(value, "sayings") for value in wrong])
        told = [Sizes(1), Not(AlikeRows(0, 2)), Same((0, 9), (1, 0))]
        self.assertEqual(error_of(kept_at_once, NINE, 1, 8, told), ("NoRow", (2,)))
        self.assertEqual(error_of(kept_at_once, NINE, 1, 8, told[::-1]), ("NoPlace", ((0, 9),)))
        self.assertEqual(error_of(kept_at_once, NINE, 1, 8, told[:1]), ("TooMany", ("places", 8)))
        self.assertIsNone(error_of(kept_at_once, SHEET, 1, 4, [Sizes(1)] * 6))
