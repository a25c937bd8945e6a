import unittest

from foretongue.refusing import Mother, mother_of
from foretongue.sheets import Sheet
from foretongue.strangers import (Layers, NoLayers, Strangers, all_strangers, fewest_strangers, is_shut, layers,
                                  sure_strangers)
from tests.helper import ODD, chances, error_of
from tests.plain_mothers import GAPS, NINE, check_errors, mothers_of_rows
from tests.plain_strangers import (all_shut, are_bars, bars_among, lots, others, plain_layers, plain_strangers, some_rows)

SIX = Sheet(["x"], [["a"]] * 6)
THREE = Sheet(["x", "y"], [["sa", "sa"], ["si", "zi"], ["si", "si"]])


def cases(seed, many):
    """Sheets, both widths, and greatest sizes, with all lots of rows that are shut."""
    for chance in chances(seed, many):
        sheet = some_rows(chance)
        for width in (0, 1):
            for most in range(1, 9):
                yield sheet, width, most, all_shut(sheet, width, most)


class Shut(unittest.TestCase):
    def test_all_lots(self):
        for sheet, width, most, shut in cases(7000, 15):
            for lot in lots(len(sheet.rows)):
                self.assertIs(is_shut(sheet, width, most, list(lot)[::-1]), lot in shut)
                self.assertIs(is_shut(sheet, width, most, lot), lot in shut)

    def test_six_rows(self):
        sheet = Sheet(["x"], [[sign] for sign in "abcdef"])
        self.assertIs(is_shut(sheet, 1, 5, [5, 4, 3, 2, 1, 0]), True)
        self.assertIs(is_shut(sheet, 1, 5, (0, 1, 2, 3, 5)), False)
        self.assertIs(is_shut(sheet, 1, 1, ()), False)


class Fewest(unittest.TestCase):
    def test_against_all_lots(self):
        sizes, sure_ones = set(), set()
        for sheet, width, most, shut in cases(7010, 25):
            wanted = plain_strangers(sheet, shut)
            sizes.add(len(wanted[0]))
            self.assertEqual(all_strangers(sheet, width, most), wanted)
            sure = tuple(row for row in range(len(sheet.rows)) if all(row in lot for lot in wanted))
            sure_ones.add((len(sure) > 0, len(wanted) > 1))
            self.assertEqual(sure_strangers(sheet, width, most), sure)
            told = fewest_strangers(sheet, width, most)
            self.assertIsInstance(told, Strangers)
            self.assertEqual(told.rows, wanted[0])
            self.assertEqual(told.dyeing, mothers_of_rows(sheet, width, most, others(sheet, wanted[0]))[0])
            self.assertEqual([lot for lot, _ in told.bars], bars_among(shut))
            self.assertTrue(are_bars(sheet, width, most, told.bars))
            self.assertEqual(fewest_strangers(sheet, width, most), told)
        self.assertGreaterEqual(sizes, {0, 1, 2, 3})
        self.assertEqual(len(sure_ones), 4)

    def test_facts(self):
        for chance in chances(7020, 30):
            sheet = some_rows(chance)
            for most in range(1, 6):
                many = [len(all_strangers(sheet, width, size)[0]) for width, size in ((0, most), (1, most), (0, most + 1))]
                self.assertLessEqual(max(many[1:]), many[0])
                for row in range(len(sheet.rows)):
                    if is_shut(sheet, 1, most, [row]):
                        self.assertIn(row, sure_strangers(sheet, 1, most))
                        self.assertIsInstance(layers(sheet, 1, most), NoLayers)

    def test_none_and_all(self):
        self.assertEqual(all_strangers(THREE, 1, 4), ((),))
        self.assertEqual(sure_strangers(THREE, 1, 4), ())
        self.assertEqual(fewest_strangers(THREE, 1, 4), Strangers((), mother_of(THREE, 1, 4).dyeing, ()))
        self.assertIsInstance(mother_of(THREE, 1, 4), Mother)
        all_rows = fewest_strangers(THREE, 0, 1)
        self.assertEqual((all_rows.rows, all_rows.dyeing), ((0, 1, 2), ()))
        self.assertEqual([lot for lot, _ in all_rows.bars], [(0,), (1,), (2,)])
        self.assertEqual(sure_strangers(THREE, 0, 1), (0, 1, 2))


class TwoLayers(unittest.TestCase):
    def test_against_all_lots(self):
        kinds = set()
        for sheet, width, most, shut in cases(7030, 25):
            told = layers(sheet, width, most)
            rows = plain_layers(sheet, shut)
            kinds.add((told.kind, bool(told), rows is not None and len(rows) > 1))
            if rows is None:
                self.assertIsInstance(told, NoLayers)
                self.assertEqual([lot for lot, _ in told.bars], bars_among(shut))
                self.assertTrue(are_bars(sheet, width, most, told.bars))
            else:
                one, other = (mothers_of_rows(sheet, width, most, lot)[0] for lot in (rows, others(sheet, rows)))
                self.assertEqual(told, Layers(rows, one, other))
            self.assertEqual(layers(sheet, width, most), told)
        self.assertEqual(kinds, {("layers", True, False), ("layers", True, True), ("nolayers", False, False)})

    def test_the_least_is_so_as_tuples_compare(self):
        # Row 1 goes with row 0 or with row 3: (0, 1, 2) stands ahead of (0, 2).
        sheet = Sheet(["x"], [["ab"], ["a"], ["a"], ["cd"]])
        self.assertEqual(layers(sheet, 1, 2).rows, (0, 1, 2))
        sheet = Sheet(["x"], [["ab"], ["ab"], ["a"], ["cd"], ["c"]])
        self.assertEqual(layers(sheet, 1, 2).rows, (0, 1, 2))

    def test_one_row(self):
        self.assertEqual(layers(Sheet(["x"], [["ab"]]), 1, 2), Layers((0,), (0, 1), ()))
        told = layers(Sheet(["x"], [["ab"]]), 1, 1)
        self.assertEqual([lot for lot, _ in told.bars], [(0,)])

    def test_turned_rows_and_a_sound_more(self):
        for chance in chances(7040, 30):
            sheet = some_rows(chance)
            turned = Sheet(sheet.languages, [[cell[::-1] for cell in row] for row in sheet.rows])
            for most in (1, 2, 3):
                self.assertEqual(all_strangers(turned, 1, most), all_strangers(sheet, 1, most))
                self.assertEqual(layers(turned, 1, most).kind, layers(sheet, 1, most).kind)
                self.assertGreaterEqual(bool(layers(sheet, 1, most + 1)), bool(layers(sheet, 1, most)))


class Wrong(unittest.TestCase):
    def test_shared_errors(self):
        for call in (all_strangers, sure_strangers, fewest_strangers, layers):
            check_errors(self, call, True)
            self.assertEqual(error_of(call, NINE, 1, 1), ("TooMany", ("places", 8)))
            self.assertEqual(error_of(call, SIX, 1, 1), ("TooMany", ("rows", 5)))
            self.assertEqual(error_of(call, Sheet(["x"], [["ab"]] * 6), 1, 1), ("TooMany", ("places", 8)))

    def test_rows(self):
        check_errors(self, is_shut, True, 1)
        for value in ODD + [[0, "1"], [True], {0: 1}, "0", [0.0]]:
            if value not in ([], ()):
                self.assertEqual(error_of(is_shut, NINE, 1, 1, value), ("BadNumber", ("rows",)), value)
        self.assertEqual(error_of(is_shut, NINE, 1, 1, [0, 0, 1, -1]), ("NoRow", (1,)))
        self.assertEqual(error_of(is_shut, NINE, 1, 1, [-1]), ("NoRow", (-1,)))
        self.assertEqual(error_of(is_shut, NINE, 1, 1, (0, 0)), ("Twice", (0,)))
        self.assertEqual(error_of(is_shut, NINE, 1, 1, [0]), ("TooMany", ("places", 8)))
        self.assertEqual(error_of(is_shut, NINE, 1, 1, []), ("TooMany", ("places", 8)))
        self.assertEqual(error_of(is_shut, GAPS, 1, 1, [0]), ("BadSheet", ("gaps",)))
        self.assertIs(is_shut(SIX, 1, 1, [0, 5]), False)
