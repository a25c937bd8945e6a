import unittest

from foretongue.asking import Ask, Key, Settled, Tells, best_gap, key_gaps, settling, tells
from foretongue.errors import Impossible
from foretongue.gaps import NoFilling, fillings
from foretongue.sayings import AlikeRows, Both, Not, Same, Saying, Sizes
from foretongue.sheets import Sheet
from tests.helper import ODD, chances, error_of
from tests.plain_gaps import (GAPPED, MANY, NINE, TWO, WHOLE, cell_at, counts_at, lots_of_gaps, plain_standing,
                              settles, some_gapped, tells_apart, word_over)
from tests.plain_mothers import some_saying
from tests.test_gaps import check_gap_errors

SAME = Same((0, 0), (0, 1))
# Sheets, widths, greatest sizes and sayings that some gaps settle.
SETTLED = [
    ("one b2 : . a / . a / ts --", 1, 2, "same 0 0 1 0", ((0, "one"), (1, "one"))),
    ("one b2 : a . / . st / - s", 0, 3, "same 0 0 1 0", ((0, "b2"), (1, "one"))),
    ("one b2 : - a / . a- / . a / - .", 1, 2, "same 3 0 2 0", ((2, "one"), (3, "b2"))),
    ("one b2 : - a / . a- / . a / - .", 0, 2, "same 3 0 2 0", ((3, "b2"),)),
    ("one b2 : ss ss / s a / s . / s .", 0, 2, "both same 0 0 2 0 same 3 0 1 0", ((2, "b2"), (3, "b2"))),
    ("one b2 : sa -- / a . / a- ta / t s", 0, 5, "both same 1 0 2 0 not rows 2 1", ((1, "b2"),)),
    ("one b2 x : s . . / s s - / . t t", 1, 2, "rows 0 1", ((0, "b2"),)),
    ("one b2 : a t / . - / -- sa / a .", 1, 4, "not rows 3 0", ((3, "b2"),)),
    ("one b2 : a t / . - / -- sa / a .", 1, 8, "size 1", ()),
]


def some_cases(seed, many, gaps=3):
    """Sheets with up to so many gaps, both widths, some greatest sizes, and the fillings that can stand."""
    for chance in chances(seed, many):
        sheet = some_gapped(chance, gaps)
        for width in (0, 1):
            for most in sorted(chance.sample(range(1, 9), 4)):
                yield chance, sheet, width, most, plain_standing(sheet, width, most)


class Gaps(unittest.TestCase):
    def check_impossible(self, call, *values):
        with self.assertRaises(Impossible) as caught:
            call(*values)
        self.assertEqual(caught.exception.paper, NoFilling())
        self.assertIsInstance(caught.exception.paper, NoFilling)

    def test_best_gap(self):
        told = set()
        for _, sheet, width, most, standing in some_cases(8100, 50):
            if sheet.is_whole:
                self.assertEqual(error_of(best_gap, sheet, width, most), ("Nothing", ()))
            elif not standing:
                self.check_impossible(best_gap, sheet, width, most)
            else:
                counts = [max(counts_at(sheet, standing, number).values()) for number in range(len(sheet.gaps))]
                number = counts.index(min(counts))
                told.add(number)
                self.assertEqual(best_gap(sheet, width, most), Ask(*sheet.gaps[number], counts[number]))
        self.assertGreaterEqual(told, {0, 1})

    def test_key_gaps(self):
        sizes = set()
        for _, sheet, width, most, standing in some_cases(8110, 50):
            if not standing:
                self.check_impossible(key_gaps, sheet, width, most)
            else:
                lot = next(lot for lot in lots_of_gaps(sheet) if tells_apart(sheet, standing, lot))
                sizes.add(len(lot))
                self.assertEqual(key_gaps(sheet, width, most), Key([sheet.gaps[number] for number in lot]))
        self.assertGreaterEqual(sizes, {0, 1, 2})

    def test_tells(self):
        found = {"sure": 0, "never": 0, "open": 0}
        for chance, sheet, width, most, standing in some_cases(8120, 30, 2):
            saying = some_saying(chance, sheet, 2)
            for number, gap in enumerate(sheet.gaps):
                if not standing:
                    self.check_impossible(tells, sheet, width, most, saying, *gap)
                    continue
                told = {"sure": [], "never": [], "open": []}
                for cell in sorted(counts_at(sheet, standing, number)):
                    group = [cells for cells in standing if cell_at(sheet, cells, number) == cell]
                    told[word_over(sheet, saying, standing, group)].append(cell)
                for word, cells in told.items():
                    found[word] += len(cells)
                self.assertEqual(tells(sheet, width, most, saying, *gap), Tells(told["sure"], told["never"], told["open"]))
                turned = tells(sheet, width, most, ~saying, *gap)
                self.assertEqual(turned, Tells(told["never"], told["sure"], told["open"]))
        self.assertGreater(min(found.values()), 30)

    def test_settling(self):
        sizes = set()
        for chance, sheet, width, most, standing in some_cases(8130, 50, 2):
            saying = some_saying(chance, sheet, 3)
            if not standing:
                self.check_impossible(settling, sheet, width, most, saying)
                continue
            lots = [lot for lot in lots_of_gaps(sheet) if settles(sheet, saying, standing, lot)]
            wanted = Settled([sheet.gaps[number] for number in lots[0]]) if lots else None
            sizes.add(len(lots[0]) if lots else None)
            self.assertEqual(settling(sheet, width, most, saying), wanted)
            self.assertEqual(settling(sheet, width, most, Not(saying)), wanted)
        self.assertGreaterEqual(sizes, {None, 0})

    def test_gaps_that_are_wanted(self):
        for text, width, most, told, gaps in SETTLED:
            sheet, saying = Sheet.read(text), Saying.read(told)
            standing = plain_standing(sheet, width, most)
            lots = [lot for lot in lots_of_gaps(sheet) if settles(sheet, saying, standing, lot)]
            self.assertEqual(tuple(sheet.gaps[number] for number in lots[0]), gaps)
            self.assertEqual(settling(sheet, width, most, saying), Settled(gaps))

    def test_a_gap_filled(self):
        for _, sheet, width, most, standing in some_cases(8140, 20, 2):
            for number, (row, language) in enumerate(sheet.gaps):
                for cells in standing:
                    if not set(cells[number]) & set("0123456789"):
                        left = sheet.with_cell(row, language, cells[number])
                        others = {cells[:at] + cells[at + 1:] for cells in standing for at in [number]}
                        self.assertLessEqual({one.cells for one in fillings(left, width, most)}, others)

    def test_cells_ascend(self):
        self.assertEqual(tells(TWO, 1, 2, Sizes(1), 1, "one"), Tells(["s", "t"], [], []))
        self.assertEqual(tells(TWO, 1, 2, Sizes(3), 1, "one"), Tells([], ["s", "t"], []))
        self.assertEqual(tells(TWO, 1, 2, Sizes(1), 0, "two"), Tells(["-", "0", "z"], [], []))

    def test_two_gaps_tell(self):
        sheet = Sheet(["one", "two"], [["s", None], ["t", None], ["u", "z"]])
        self.assertEqual(key_gaps(sheet, 1, 3), Key([(0, "two"), (1, "two")]))
        self.assertEqual(best_gap(sheet, 1, 3), Ask(0, "two", 4))

    def test_whole_sheets(self):
        self.assertEqual(key_gaps(WHOLE, 1, 3), Key([]))
        self.assertEqual(settling(WHOLE, 1, 3, Same((0, 0), (1, 0))), Settled([]))
        self.assertIsNone(settling(WHOLE, 1, 4, Same((0, 0), (1, 0))))
        self.check_impossible(key_gaps, WHOLE, 0, 3)
        self.check_impossible(settling, WHOLE, 0, 3, Sizes(1))
        self.assertEqual(error_of(best_gap, WHOLE, 0, 1), ("Nothing", ()))


class Wrong(unittest.TestCase):
    def test_shared_errors(self):
        for call, more in [(best_gap, 0), (key_gaps, 0), (tells, 3), (settling, 1)]:
            check_gap_errors(self, call, more)
        for call in (best_gap, key_gaps):
            self.assertEqual(error_of(call, NINE, 1, 1), ("TooMany", ("places", 8)))
            self.assertEqual(error_of(call, MANY, 1, 1), ("TooMany", ("fillings", 60)))
        whole = Sheet(["x"], [["a" * 9]])
        self.assertEqual(error_of(best_gap, whole, 1, 1), ("Nothing", ()))
        self.assertEqual(error_of(key_gaps, whole, 1, 1), ("TooMany", ("places", 8)))

    def test_sayings(self):
        for value in ODD + ["size 3"]:
            self.assertEqual(error_of(tells, NINE, 1, 1, value, value, value), ("BadSaying", ("saying",)))
            self.assertEqual(error_of(settling, NINE, 1, 1, value), ("BadSaying", ("saying",)))
        strange = Both(Same((0, 0), (0, 9)), AlikeRows(0, 7))
        for value in ODD:
            if value != 0 or isinstance(value, bool):
                self.assertEqual(error_of(tells, NINE, 1, 1, strange, value, value), ("NoRow", (value,)))
            self.assertEqual(error_of(tells, NINE, 1, 1, strange, 0, value), ("NoLanguage", (value,)))
        self.assertEqual(error_of(tells, NINE, 1, 1, strange, 0, "one"), ("NoPlace", ((0, 9),)))
        self.assertEqual(error_of(tells, NINE, 1, 1, AlikeRows(0, 7), 0, "one"), ("NoRow", (7,)))
        self.assertEqual(error_of(tells, NINE, 1, 1, SAME, 0, "one"), ("Misfit", ("gap",)))
        self.assertEqual(error_of(tells, NINE, 1, 1, SAME, 0, "two"), ("TooMany", ("places", 8)))
        self.assertEqual(error_of(tells, MANY, 1, 1, SAME, 0, "two"), ("TooMany", ("fillings", 60)))
        self.assertEqual(error_of(settling, NINE, 1, 1, strange), ("NoPlace", ((0, 9),)))
        self.assertEqual(error_of(settling, NINE, 1, 1, AlikeRows(7, 0)), ("NoRow", (7,)))
        self.assertEqual(error_of(settling, NINE, 1, 1, SAME), ("TooMany", ("places", 8)))
        self.assertEqual(error_of(settling, MANY, 1, 1, SAME), ("TooMany", ("fillings", 60)))
        self.assertEqual(error_of(tells, GAPPED, 1, 1, SAME, 0, "two")[0], "Impossible")
        self.assertEqual(error_of(settling, TWO, 1, 1, Sizes(1))[0], "Impossible")
