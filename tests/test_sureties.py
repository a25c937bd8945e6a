import unittest
from itertools import combinations

from foretongue.answers import answer
from foretongue.sayings import AlikeRows, Not, Same, Sizes
from foretongue.sheets import Sheet
from foretongue.sureties import Rows, fewest_rows, pairs_told, sure_lots
from tests.helper import ODD, chances, error_of
from tests.plain_mothers import NINE, check_errors, plain_holds, plain_mothers, plain_right_tree, some_saying, some_whole_sheet
from tests.test_answers import aim, errors_of_saying, impossible


def sets_asked(sheet, saying):
    many = len(sheet.rows)
    return [lot for told in range(1, many + 1) for lot in combinations(range(many), told) if set(saying.rows) <= set(lot)]


def told_on(saying, rows):
    """The saying told of the sheet of these rows, by its text."""
    items = str(saying).split(" ")
    for at, item in enumerate(items):
        if item == "same":
            items[at + 1], items[at + 3] = (str(rows.index(int(items[at + way]))) for way in (1, 3))
        if item == "rows":
            items[at + 1], items[at + 2] = (str(rows.index(int(items[at + way]))) for way in (1, 2))
    return type(saying).read(" ".join(items))


def against(sheet, width, most, saying, rows):
    """The mothers of the sheet of these rows for which the saying does not hold."""
    part = sheet.of_rows(rows)
    return [dyeing for dyeing in plain_mothers(part, width, most) if not plain_holds(told_on(saying, rows), part, dyeing)]


class Pairs(unittest.TestCase):
    def test_against_all_mothers(self):
        words, lots = set(), set()
        for chance in chances(2600, 80):
            sheet = some_whole_sheet(chance, 6)
            for width in (0, 1):
                for most in range(1, 8):
                    found, many = plain_mothers(sheet, width, most), range(len(sheet.places))
                    if not found:
                        impossible(self, pairs_told, sheet, width, most)
                        impossible(self, sure_lots, sheet, width, most)
                        continue
                    wanted = []
                    for place, other in combinations(many, 2):
                        truths = {dyeing[place] == dyeing[other] for dyeing in found}
                        word = "open" if len(truths) == 2 else "sure" if True in truths else "never"
                        wanted.append((place, other, word))
                    words |= {row[2] for row in wanted}
                    self.assertEqual(pairs_told(sheet, width, most), tuple(wanted))
                    one = [[other for other in many if all(dyeing[place] == dyeing[other] for dyeing in found)]
                           for place in many]
                    told = tuple(sorted({tuple(lot) for lot in one}))
                    lots |= {len(lot) for lot in told}
                    self.assertEqual(sure_lots(sheet, width, most), told)
        self.assertEqual(words, {"sure", "never", "open"})
        self.assertLessEqual({1, 2, 3}, lots)

    def test_as_answer_tells(self):
        for chance in chances(2610, 10):
            sheet = some_whole_sheet(chance, 5)
            for place, other, word in pairs_told(sheet, 1, 5):
                self.assertEqual(answer(sheet, 1, 5, Same(sheet.places[place], sheet.places[other])).kind, word)

    def test_as_many_sounds_as_places(self):
        for chance in chances(2620, 15):
            sheet = some_whole_sheet(chance, 6)
            for most in (len(sheet.places), 8):
                self.assertEqual(sure_lots(sheet, 1, most), tuple((place,) for place in range(len(sheet.places))))

    def test_eight_places(self):
        sheet = Sheet(["x"], [["aaaaaaaa"]])
        self.assertEqual({row[2] for row in pairs_told(sheet, 1, 8)}, {"open"})
        self.assertEqual(sure_lots(sheet, 0, 1), (tuple(range(8)),))
        self.assertEqual((pairs_told(Sheet(["x"], [["a"]]), 1, 1), sure_lots(Sheet(["x"], [["a"]]), 1, 1)), ((), ((0,),)))

    def test_wrong(self):
        for call in (pairs_told, sure_lots):
            check_errors(self, call, True)
            self.assertEqual(error_of(call, NINE, 1, 1), ("TooMany", ("places", 8)))


class FewestRows(unittest.TestCase):
    def test_all_sets_of_rows(self):
        lengths, papers = set(), set()
        for chance in chances(2700, 150):
            sheet = some_whole_sheet(chance, 6, letters="as-")
            saying = some_saying(chance, sheet, 1)
            width, most = chance.randrange(2), chance.randrange(1, 7)
            if not plain_mothers(sheet, width, most):
                impossible(self, fewest_rows, sheet, width, most, saying)
                continue
            if len(sheet.rows) > 5:
                self.assertEqual(error_of(fewest_rows, sheet, width, most, saying), ("TooMany", ("rows", 5)))
                continue
            told = fewest_rows(sheet, width, most, saying)
            papers.add(told.kind)
            if against(sheet, width, most, saying, list(range(len(sheet.rows)))):
                self.assertEqual(told, answer(sheet, width, most, saying))
                continue
            sets = sets_asked(sheet, saying)
            first = next(rows for rows in sets if not against(sheet, width, most, saying, rows))
            ahead = sets[:sets.index(first)]
            lengths.add((len(first), len(sheet.rows)))
            self.assertIsInstance(told, Rows)
            self.assertEqual(told.rows, first)
            self.assertEqual(len(told.others), len(ahead))
            for rows, dyeing in zip(ahead, told.others):
                self.assertIn(dyeing, against(sheet, width, most, saying, rows))
            part = sheet.of_rows(first)
            self.assertTrue(plain_right_tree(part, width, most, told.tree, aim(part, most, told_on(saying, first), True)))
        self.assertEqual(papers, {"rows", "never", "open"})
        self.assertTrue(any(few < many for few, many in lengths))
        self.assertTrue(any(few > 1 for few, many in lengths))

    def test_one_row_at_least_is_asked(self):
        sheet = Sheet(["x"], [["ab"], ["a"]])
        self.assertEqual(fewest_rows(sheet, 1, 2, Sizes(1)).rows, (0,))
        self.assertEqual(fewest_rows(sheet, 1, 2, Sizes(2)).rows, (0,))
        self.assertEqual(fewest_rows(sheet, 1, 2, Not(AlikeRows(0, 1))), Rows((0, 1), None, ()))

    def test_too_many_rows_behind_impossible(self):
        six = Sheet(["x"], [["a"]] * 5 + [["b"]])
        impossible(self, fewest_rows, six, 1, 1, Sizes(1))
        self.assertEqual(error_of(fewest_rows, six, 1, 2, Sizes(1)), ("TooMany", ("rows", 5)))
        self.assertEqual(error_of(fewest_rows, six, 1, 2, Sizes(3)), ("TooMany", ("rows", 5)))

    def test_wrong(self):
        errors_of_saying(self, fewest_rows, [(value, "saying") for value in ODD + ["size 3"]])
        self.assertEqual(error_of(fewest_rows, NINE, 1, 8, Same((0, 9), (1, 0))), ("NoPlace", ((0, 9),)))
        self.assertEqual(error_of(fewest_rows, NINE, 1, 8, AlikeRows(0, 1)), ("NoRow", (1,)))
        self.assertEqual(error_of(fewest_rows, NINE, 1, 8, Sizes(1)), ("TooMany", ("places", 8)))
