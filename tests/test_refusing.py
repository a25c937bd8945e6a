import unittest
from itertools import combinations

from foretongue.refusing import Barring, Least, Mother, NoMother, barring_rows, least_size, mother_of
from foretongue.sheets import Sheet
from tests.helper import chances, error_of
from tests.plain_mothers import (NINE, check_errors, mothers_of_rows, no_end, plain_mothers, plain_right_tree, size,
                                 some_whole_sheet)


def lots_of_rows(sheet):
    many = len(sheet.rows)
    return [lot for told in range(1, many + 1) for lot in combinations(range(many), told)]


def struck(rows):
    return [tuple(row for row in rows if row != left) for left in rows]


def plain_barring(sheet, width, most):
    """All lots of rows that bar, in their order."""
    found = []
    for lot in lots_of_rows(sheet):
        if not mothers_of_rows(sheet, width, most, lot):
            if all(mothers_of_rows(sheet, width, most, left) for left in struck(lot)):
                found.append(lot)
    return found


class Refusing(unittest.TestCase):
    def test_mother_of(self):
        kinds = set()
        for chance in chances(1800, 60):
            sheet = some_whole_sheet(chance, 6)
            for width in (0, 1):
                every = plain_mothers(sheet, width)
                for most in range(1, 9):
                    wanted = [dyeing for dyeing in every if size(dyeing) <= most]
                    told = mother_of(sheet, width, most)
                    kinds.add(told.kind)
                    if wanted:
                        self.assertEqual(told, Mother(wanted[0]))
                    else:
                        self.assertIsInstance(told, NoMother)
                        self.assertTrue(plain_right_tree(sheet, width, most, told.tree, no_end))
                    self.assertIs(bool(told), bool(wanted))
                    self.assertEqual(mother_of(sheet, width, most), told)
        self.assertEqual(kinds, {"mother", "nomother"})

    def test_least_size(self):
        sizes = set()
        for chance in chances(1810, 80):
            sheet = some_whole_sheet(chance, 6)
            for width in (0, 1):
                every = plain_mothers(sheet, width)
                fewest = min(size(dyeing) for dyeing in every)
                told = least_size(sheet, width)
                sizes.add(fewest)
                self.assertEqual(told.dyeing, min(dyeing for dyeing in every if size(dyeing) == fewest))
                if fewest == 1:
                    self.assertEqual(told, Least(told.dyeing, None))
                else:
                    self.assertTrue(plain_right_tree(sheet, width, fewest - 1, told.tree, no_end))
        self.assertGreaterEqual(len(sizes), 5)

    def test_least_is_not_the_first_of_all(self):
        sheet = Sheet(["one", "two"], [["sa", "sa"], ["si", "zi"], ["si", "si"]])
        self.assertEqual(least_size(sheet, 1).dyeing, (0, 1, 0, 2, 0, 3))
        found = 0
        for chance in chances(1820, 150):
            told = some_whole_sheet(chance, 6)
            found += least_size(told, 1).dyeing != mother_of(told, 1, 8).dyeing
        self.assertGreater(found, 0)

    def test_barring_rows(self):
        lengths = set()
        for chance in chances(1830, 80):
            sheet = some_whole_sheet(chance, 6)
            for width in (0, 1):
                for most in (1, 2, 3):
                    told, wanted = barring_rows(sheet, width, most), plain_barring(sheet, width, most)
                    if not wanted:
                        self.assertEqual(told, mother_of(sheet, width, most))
                        continue
                    lengths.add(len(wanted[0]))
                    self.assertIsInstance(told, Barring)
                    self.assertEqual(told.rows, wanted[0])
                    others = [mothers_of_rows(sheet, width, most, left)[0] for left in struck(wanted[0])]
                    self.assertEqual(told.others, tuple(others))
                    self.assertTrue(plain_right_tree(sheet.of_rows(told.rows), width, most, told.tree, no_end))
        self.assertLessEqual({1, 2, 3}, lengths)

    def test_eight_places(self):
        for chance in chances(1840, 10):
            sheet = some_whole_sheet(chance, 8)
            self.assertEqual(mother_of(sheet, 1, 8).kind, "mother")
            told = least_size(sheet, 1)
            self.assertTrue(told.tree is None or plain_right_tree(sheet, 1, size(told.dyeing) - 1, told.tree, no_end))

    def test_wrong(self):
        for call in (mother_of, least_size, barring_rows):
            check_errors(self, call, call is not least_size)
            self.assertEqual(error_of(call, NINE, 1, *[1] * (call is not least_size)), ("TooMany", ("places", 8)))
