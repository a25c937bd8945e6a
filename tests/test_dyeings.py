import unittest
from itertools import product

from foretongue.dyeings import (dyeing_of, dyeing_of_rows, is_dyeing, is_mother, joined, lots_of, refines, size_of, table_of,
                                why_no_mother)
from foretongue.sheets import Sheet
from tests.helper import ODD, chances, error_of
from tests.plain_mothers import (GAPS, all_dyeings, barring_pairs, beside, check_errors, plain_mothers, size,
                                 some_whole_sheet)

SHEET = Sheet(["one", "two"], [["sa", "sa"], ["si", "zi"]])
NONE = [[1], [0, 2], [0, 1, 3], (0, 0, 2), [-1], [0, -1], [0, True], [False], [0, 0.0], ["0"], [None], [[0]], "0", "01", {0: 0},
        list(range(13)), [0] * 13]


class Alone(unittest.TestCase):
    def test_is_dyeing(self):
        for many in range(5):
            every = all_dyeings(many)
            for numbers in product(range(-1, 5), repeat=many):
                self.assertIs(is_dyeing(numbers), numbers in every)
                self.assertIs(is_dyeing(list(numbers)), numbers in every)
        for value in NONE + [value for value in ODD if value not in ([], ())]:
            self.assertIs(is_dyeing(value), False, value)
        for value in [[], (), [0] * 12, list(range(12))]:
            self.assertIs(is_dyeing(value), True)

    def test_dyeing_of(self):
        for numbers in product([7, -1, 10 ** 30, 0], repeat=4):
            wanted = [list(dict.fromkeys(numbers)).index(number) for number in numbers]
            self.assertEqual(dyeing_of(list(numbers)), tuple(wanted))
        self.assertEqual((dyeing_of([]), dyeing_of((5,) * 12)), ((), (0,) * 12))
        for value in ODD + [[0] * 13, [True], [1, None], "01", [1.0], {1: 1}]:
            if value not in ([], ()):
                self.assertEqual(error_of(dyeing_of, value), ("BadDyeing", ("numbers",)), value)

    def test_sizes_and_lots(self):
        for dyeing in all_dyeings(5) + [()]:
            self.assertEqual(size_of(dyeing), size(dyeing))
            wanted = tuple(tuple(at for at, sound in enumerate(dyeing) if sound == told) for told in range(size(dyeing)))
            self.assertEqual(lots_of(list(dyeing)), wanted)

    def test_refines(self):
        for many in range(5):
            for one in all_dyeings(many):
                for other in all_dyeings(many):
                    pairs = [(at, to) for at in range(many) for to in range(many) if one[at] == one[to]]
                    self.assertIs(refines(one, list(other)), all(other[at] == other[to] for at, to in pairs))

    def test_joined(self):
        for dyeing in all_dyeings(5):
            for sound in range(size(dyeing)):
                for other in range(size(dyeing)):
                    if sound != other:
                        made = [min(sound, other) if number in (sound, other) else number for number in dyeing]
                        self.assertEqual(joined(dyeing, sound, other), dyeing_of(made))

    def test_wrong(self):
        for value in ODD + NONE:
            if value not in ([], ()):
                for call in (size_of, lots_of):
                    self.assertEqual(error_of(call, value), ("BadDyeing", ("dyeing",)))
                self.assertEqual(error_of(refines, value, value), ("BadDyeing", ("one",)))
                self.assertEqual(error_of(refines, [0], value), ("BadDyeing", ("other",)))
                self.assertEqual(error_of(joined, value, value, value), ("BadDyeing", ("dyeing",)))
        self.assertEqual(error_of(refines, (0, 1), (0,)), ("Misfit", ("places",)))
        for value in [2, -1, True, False, None, 0.0, "0", [0]]:
            self.assertEqual(error_of(joined, (0, 1), value, value), ("BadNumber", ("sound",)))
            self.assertEqual(error_of(joined, (0, 1), 1, value), ("BadNumber", ("other",)))
        self.assertEqual(error_of(joined, (0, 1), 1, 1), ("Twice", (1,)))
        self.assertEqual(error_of(joined, (), 0, 0), ("BadNumber", ("sound",)))


class OfSheets(unittest.TestCase):
    def test_why_no_mother(self):
        for chance in chances(1600, 40):
            sheet = some_whole_sheet(chance, 5)
            for width in (0, 1):
                for dyeing in all_dyeings(len(sheet.places)):
                    pairs = barring_pairs(sheet, width, dyeing)
                    self.assertEqual(why_no_mother(sheet, width, list(dyeing)), pairs[0] if pairs else None)
                    self.assertIs(is_mother(sheet, width, dyeing), not pairs)

    def test_twelve_places(self):
        for chance in chances(1610, 20):
            sheet = some_whole_sheet(chance, 12)
            for _ in range(20):
                dyeing = dyeing_of([chance.randrange(9) for _ in sheet.places])
                for width in (0, 1):
                    pairs = barring_pairs(sheet, width, dyeing)
                    self.assertEqual(why_no_mother(sheet, width, dyeing), pairs[0] if pairs else None)
        self.assertIs(is_mother(Sheet(["x"], [["a" * 12]]), 0, [0] * 12), True)

    def test_surroundings_by_hand(self):
        self.assertIsNone(why_no_mother(SHEET, 1, (0, 1, 0, 2)))
        self.assertEqual(why_no_mother(SHEET, 1, (0, 1, 0, 1)), (0, 2))
        one = Sheet(["x", "y"], [["a", "b"], ["a", "c"]])
        self.assertEqual(why_no_mother(one, 1, (0, 0)), (0, 1))
        edge = Sheet(["x", "y"], [["as", "bs"], ["sa", "sc"]])
        self.assertIsNone(why_no_mother(edge, 1, (0, 1, 1, 0)))

    def test_what_refines_a_mother_is_one(self):
        for chance in chances(1620, 15):
            sheet = some_whole_sheet(chance, 5)
            for width in (0, 1):
                found = plain_mothers(sheet, width)
                for dyeing in all_dyeings(len(sheet.places)):
                    wanted = any(refines(dyeing, other) for other in found)
                    self.assertIs(is_mother(sheet, width, dyeing), wanted)

    def test_on_rows(self):
        for chance in chances(1630, 40):
            sheet = some_whole_sheet(chance, 8)
            dyeing = dyeing_of([chance.randrange(4) for _ in sheet.places])
            rows = chance.sample(range(len(sheet.rows)), chance.randrange(len(sheet.rows) + 1))
            kept = [sound for (row, _), sound in zip(sheet.places, dyeing) if row in rows]
            self.assertEqual(dyeing_of_rows(sheet, rows, list(dyeing)), dyeing_of(kept))
        self.assertEqual(dyeing_of_rows(SHEET, [], (0, 1, 0, 2)), ())

    def test_tables(self):
        for chance in chances(1640, 25):
            sheet = some_whole_sheet(chance, 5)
            for dyeing in plain_mothers(sheet, 1):
                around = [tuple(-1 if beside(sheet, place, way) is None else dyeing[beside(sheet, place, way)]
                                for way in (-1, 1)) for place in range(len(sheet.places))]
                for at, language in enumerate(sheet.languages):
                    rows = {(dyeing[place], *around[place], sheet.column(place)[at]) for place in range(len(dyeing))}
                    self.assertEqual(table_of(sheet, 1, list(dyeing), language), tuple(sorted(rows)))
                    self.assertEqual(len({row[:3] for row in rows}), len(rows))
                    if is_mother(sheet, 0, dyeing):
                        rows = {(dyeing[place], sheet.column(place)[at]) for place in range(len(dyeing))}
                        self.assertEqual(table_of(sheet, 0, dyeing, language), tuple(sorted(rows)))
                        self.assertEqual(len({row[0] for row in rows}), len(rows))

    def test_wrong(self):
        for call in (why_no_mother, is_mother, table_of):
            more = (None,) if call is table_of else ()
            check_errors(self, call, False, 1 + len(more))
            for value in ODD + NONE:
                if value not in ([], ()):
                    self.assertEqual(error_of(call, SHEET, 1, value, *more), ("BadDyeing", ("dyeing",)))
        for call in (why_no_mother, is_mother):
            for dyeing in [(), (0,), (0, 1, 2), (0, 1, 2, 3, 4)]:
                self.assertEqual(error_of(call, SHEET, 1, dyeing), ("Misfit", ("places",)))

    def test_wrong_tables(self):
        for value in ODD + ["three"]:
            self.assertEqual(error_of(table_of, SHEET, 1, (0,), value), ("NoLanguage", (value,)))
        self.assertEqual(error_of(table_of, SHEET, 1, (0,), "one"), ("Misfit", ("places",)))
        self.assertEqual(error_of(table_of, SHEET, 1, (0, 1, 0, 1), "one"), ("Misfit", ("dyeing",)))
        self.assertEqual(error_of(table_of, SHEET, 0, (0, 1, 0, 2), "one"), ("Misfit", ("dyeing",)))

    def test_wrong_rows(self):
        for value in ODD:
            self.assertEqual(error_of(dyeing_of_rows, value, value, value), ("BadSheet", ("sheet",)))
            self.assertEqual(error_of(dyeing_of_rows, GAPS, value, value), ("BadSheet", ("gaps",)))
            if value not in ([], ()):
                self.assertEqual(error_of(dyeing_of_rows, SHEET, value, value), ("BadNumber", ("rows",)))
                self.assertEqual(error_of(dyeing_of_rows, SHEET, [1, 0], value), ("BadDyeing", ("dyeing",)))
            self.assertEqual(error_of(dyeing_of_rows, SHEET, [0, 0, 2], value), ("NoRow", (2,)))
            self.assertEqual(error_of(dyeing_of_rows, SHEET, [0, -1], value), ("NoRow", (-1,)))
            self.assertEqual(error_of(dyeing_of_rows, SHEET, [0, 1, 1, 0], value), ("Twice", (1,)))
        self.assertEqual(error_of(dyeing_of_rows, SHEET, [], (0,)), ("Misfit", ("places",)))
