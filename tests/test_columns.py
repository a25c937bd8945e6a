import unittest

from foretongue.columns import akin_pairs, are_akin
from foretongue.sheets import Sheet
from tests.helper import ODD, chances, error_of
from tests.plain_mothers import GAPS, plain_akin, some_whole_sheet


class Akin(unittest.TestCase):
    def test_all_pairs(self):
        for chance in chances(1000, 60):
            sheet = some_whole_sheet(chance, 12, languages=4)
            many = range(len(sheet.places))
            for place in many:
                for other in many:
                    wanted = plain_akin(sheet, place, other)
                    self.assertIs(are_akin(sheet, place, other), wanted)
                    self.assertIs(are_akin(sheet, other, place), wanted)
                self.assertIs(are_akin(sheet, place, place), True)
            wanted = tuple((place, other) for place in many for other in many
                           if place < other and plain_akin(sheet, place, other))
            self.assertEqual(akin_pairs(sheet), wanted)

    def test_not_handed_on(self):
        sheet = Sheet(["x", "y"], [["sst", "szz"]])
        self.assertEqual(akin_pairs(sheet), ((0, 1), (1, 2)))

    def test_by_nothing_left_alone(self):
        sheet = Sheet(["x", "y"], [["--", "ab"], ["--", "--"]])
        self.assertEqual(akin_pairs(sheet), ((2, 3),))
        self.assertIs(are_akin(sheet, 0, 1), False)
        self.assertIs(are_akin(Sheet(["x"], [["--"]]), 0, 1), True)

    def test_with_a_language_more(self):
        left = 0
        for chance in chances(1010, 40):
            sheet = some_whole_sheet(chance, 8, languages=3)
            more = sheet.joined(Sheet(["z"], [["".join(chance.choices("ab-", k=len(cells[0])))] for cells in sheet.rows]))
            for place, other in akin_pairs(sheet):
                signs = zip(sheet.column(place), sheet.column(other))
                by_sound = any(sign == its != "-" for sign, its in signs)
                self.assertTrue(are_akin(more, place, other) or not by_sound)
                left += not are_akin(more, place, other)
        self.assertGreater(left, 0)

    def test_wrong(self):
        sheet = Sheet(["one", "two"], [["sa", "sa"], ["si", "zi"]])
        for value in ODD + ["one : a"]:
            self.assertEqual(error_of(are_akin, value, value, value), ("BadSheet", ("sheet",)))
            self.assertEqual(error_of(akin_pairs, value), ("BadSheet", ("sheet",)))
            self.assertEqual(error_of(are_akin, GAPS, value, value), ("BadSheet", ("gaps",)))
        self.assertEqual(error_of(akin_pairs, GAPS), ("BadSheet", ("gaps",)))
        for value in [4, -1, True, False, None, 1.0, "0", (0, 0), [0], 10 ** 70]:
            self.assertEqual(error_of(are_akin, sheet, value, -5), ("NoPlace", (value,)))
            self.assertEqual(error_of(are_akin, sheet, 3, value), ("NoPlace", (value,)))
