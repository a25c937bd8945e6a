import unittest
from itertools import product

from foretongue.errors import Impossible
from foretongue.gaps import Filled, ForcedCell, NoFilling, OpenCell, cell_of, filled, fillings, loose
from foretongue.loose_cells import many_fillings
from foretongue.refusing import Mother, mother_of
from foretongue.sheets import Sheet
from foretongue.zero import zero
from tests.helper import ODD, chances, error_of
from tests.plain_gaps import (GAPPED, MANY, NINE, TWO, WHOLE, all_loose, cell_at, count_fillings, lengths, plain_filled,
                              plain_loose, plain_standing, some_gapped)
from tests.plain_mothers import WRONG_SIZES, WRONG_WIDTHS, size


def check_gap_errors(case, call, more=0):
    """The errors of a sheet that may have gaps, a width and a greatest size, ahead of so many other values."""
    for value in ODD + ["one : sa"]:
        case.assertEqual(error_of(call, value, value, value, *[value] * more), ("BadSheet", ("sheet",)))
    for value in WRONG_WIDTHS:
        case.assertEqual(error_of(call, NINE, value, value, *[value] * more), ("BadNumber", ("width",)))
    for value in WRONG_SIZES:
        case.assertEqual(error_of(call, NINE, 1, value, *[value] * more), ("BadNumber", ("most",)))


def check_wrong_gaps(case, call, behind):
    """The errors of the row and the language of a gap, ahead of some other values."""
    for value in ODD + [1, 5]:
        if value != 0 or isinstance(value, bool):
            case.assertEqual(error_of(call, NINE, 1, 1, value, value, *behind), ("NoRow", (value,)))
        case.assertEqual(error_of(call, NINE, 1, 1, 0, value, *behind), ("NoLanguage", (value,)))
    case.assertEqual(error_of(call, NINE, 1, 1, 0, "one", *behind), ("Misfit", ("gap",)))
    case.assertEqual(error_of(call, NINE, 1, 1, 0, "two", *behind), ("TooMany", ("places", 8)))
    case.assertEqual(error_of(call, MANY, 1, 1, 0, "two", *behind), ("TooMany", ("fillings", 60)))


class LooseFillings(unittest.TestCase):
    def test_any_filling(self):
        for chance in chances(8000, 100):
            sheet = some_gapped(chance, 3, 6)
            for _ in range(5):
                cells = ["".join(chance.choices("asxy-", k=length)) for length in lengths(sheet)]
                wanted = plain_loose(sheet, cells)
                self.assertEqual(loose(sheet, cells), wanted)
                self.assertEqual(loose(sheet, tuple(cells)), wanted)
                whole = filled(sheet, list(wanted))
                self.assertEqual(whole, plain_filled(sheet, wanted))
                self.assertTrue(whole.is_whole)
                self.assertEqual(loose(sheet, [whole.cell(*gap) for gap in sheet.gaps]), wanted)

    def test_what_is_no_loose_filling(self):
        for chance in chances(8010, 40):
            sheet = some_gapped(chance, 2, 4)
            if not sheet.is_whole:
                every = all_loose(sheet)
                for cells in product(*(map("".join, product("as-01z", repeat=length)) for length in lengths(sheet))):
                    if cells in every:
                        self.assertEqual(filled(sheet, cells), plain_filled(sheet, cells))
                    else:
                        self.assertEqual(error_of(filled, sheet, cells), ("BadSheet", ("loose",)))

    def test_digits_of_unlike_languages_and_of_several_gaps(self):
        sheet = Sheet(["one", "two"], [["sa", None], [None, "zi"], ["t", None], [None, "u"]])
        self.assertEqual(loose(sheet, ["kz", "kl", "k", "l"]), ("0z", "01", "0", "1"))
        self.assertEqual(loose(sheet, ["kl", "kl", "l", "k"]), ("01", "01", "1", "0"))
        self.assertEqual(error_of(filled, sheet, ["10", "01", "1", "0"]), ("BadSheet", ("loose",)))
        whole = filled(sheet, ["01", "0-", "1", "0"])
        self.assertEqual(str(whole), "one two : sa ab / b- zi / t b / b u")

    def test_whole_sheets(self):
        self.assertEqual((loose(WHOLE, []), loose(WHOLE, ())), ((), ()))
        self.assertEqual(filled(WHOLE, []), WHOLE)

    def test_wrong_cells(self):
        for call in (loose, filled):
            for value in ODD + ["one : sa"]:
                self.assertEqual(error_of(call, value, value), ("BadSheet", ("sheet",)))
            for value in ODD + ["sa", [None], ["A"], ["s a"], [["s"]], [b"s"], ["\u0661"], ["#"], {"sa": 1}, ["a", None]]:
                if value not in ([], (), ["a"], ("a", "b")):
                    self.assertEqual(error_of(call, NINE, value), ("BadSheet", ("cells",)), value)
            for value in [[], (), ["s", "a"], ["", ""]]:
                self.assertEqual(error_of(call, NINE, value), ("Misfit", ("gaps",)), value)
            self.assertEqual(error_of(call, WHOLE, [""]), ("Misfit", ("gaps",)))
            for value in [[""], ["s"], ["s" * 10], ["s" * 100000]]:
                self.assertEqual(error_of(call, NINE, value), ("Misfit", ("places",)))
            self.assertEqual(error_of(call, NINE, ["-" * 9]), ("TooMany", ("places", 8)))
        self.assertEqual(error_of(loose, GAPPED, ["0i"]), ("BadSheet", ("cells",)))
        self.assertEqual(error_of(filled, NINE, ["1--------"]), ("BadSheet", ("loose",)))
        self.assertEqual(error_of(filled, NINE, ["01234567"]), ("Misfit", ("places",)))
        self.assertEqual(error_of(filled, NINE, ["012345678"]), ("TooMany", ("places", 8)))
        self.assertEqual(error_of(filled, GAPPED, ["kk"]), ("BadSheet", ("loose",)))
        self.assertEqual(error_of(loose, NINE, ["s--------"]), ("TooMany", ("places", 8)))


class WhatCanStand(unittest.TestCase):
    def test_against_all_fillings(self):
        many = set()
        for chance in chances(8020, 50):
            sheet = some_gapped(chance)
            for width in (0, 1):
                every = plain_standing(sheet, width, 99)
                for most in range(1, 9):
                    wanted = [(cells, next(dyeing for dyeing in found if size(dyeing) <= most))
                              for cells, found in sorted(every.items()) if any(size(dyeing) <= most for dyeing in found)]
                    told = fillings(sheet, width, most)
                    many.add((len(sheet.gaps), min(len(told), 2)))
                    self.assertTrue(all(type(one) is Filled for one in told))
                    self.assertEqual([one.parts for one in told], wanted)
        self.assertEqual(len(many), 8)

    def test_cells(self):
        kinds = set()
        for chance in chances(8030, 60):
            sheet = some_gapped(chance)
            for width in (0, 1):
                for most in range(1, 6):
                    standing = plain_standing(sheet, width, most)
                    for number, gap in enumerate(sheet.gaps):
                        cells = sorted({cell_at(sheet, told, number) for told in standing})
                        if not cells:
                            with self.assertRaises(Impossible) as caught:
                                cell_of(sheet, width, most, *gap)
                            self.assertEqual(caught.exception.paper, NoFilling())
                            self.assertIs(bool(caught.exception.paper), False)
                        elif len(cells) == 1 and not cells[0].strip("as-"):
                            self.assertEqual(cell_of(sheet, width, most, *gap), ForcedCell(cells[0]))
                        else:
                            self.assertEqual(cell_of(sheet, width, most, *gap), OpenCell(cells))
                        kinds.add("none" if not cells else cell_of(sheet, width, most, *gap).kind)
        self.assertEqual(kinds, {"none", "forcedcell", "opencell"})

    def test_one_cell_with_a_digit_is_open(self):
        found = 0
        for chance in chances(8040, 300):
            sheet = some_gapped(chance, 2, 4)
            for most in (1, 2, 3):
                if sheet.gaps and fillings(sheet, 1, most):
                    one = cell_of(sheet, 1, most, *sheet.gaps[0])
                    if isinstance(one, OpenCell) and len(one.cells) == 1:
                        found += 1
                        self.assertTrue(set(one.cells[0]) & set("0123"))
        self.assertGreater(found, 0)

    def test_whole_sheets(self):
        self.assertEqual(fillings(WHOLE, 1, 3), (Filled((), mother_of(WHOLE, 1, 3).dyeing),))
        self.assertEqual(fillings(WHOLE, 0, 3), ())

    def test_facts(self):
        for chance in chances(8050, 40):
            sheet = some_gapped(chance)
            for most in range(1, 5):
                told = {one.cells for one in fillings(sheet, 0, most)}
                self.assertLessEqual(told, {one.cells for one in fillings(sheet, 0, most + 1)})
                self.assertLessEqual(told, {one.cells for one in fillings(sheet, 1, most)})
                self.assertEqual(told, {cells for cells in all_loose(sheet) if len(set(zero(filled(sheet, cells)))) <= most})
            self.assertEqual([one.cells for one in fillings(sheet, 0, len(sheet.places))], all_loose(sheet))
            self.assertEqual(len(all_loose(sheet)), count_fillings(sheet))

    def test_what_was_struck_can_stand_again(self):
        for chance in chances(8060, 60):
            sheet = some_gapped(chance, 0, 4)
            most = chance.randrange(1, 5)
            row, language = chance.randrange(len(sheet.rows)), chance.choice(sheet.languages)
            if isinstance(mother_of(sheet, 1, most), Mother) and len(sheet.languages) > 1:
                struck = sheet.with_cell(row, language, None)
                if count_fillings(struck) <= 60:
                    told = {one.cells for one in fillings(struck, 1, most)}
                    self.assertIn(loose(struck, [sheet.cell(row, language)]), told)

    def test_bounds(self):
        for text, many in [("a b : s . / s . / s . / s .", 52), ("a b : s . / s . / s . / s . / s .", 203),
                           ("a b : sss . / s a", 37), ("a b : ss . / ss ab / a -", 17), ("a b : sss . / ss ab", 77),
                           ("a b : s . / . s / . s / s .", 100), ("a b : s . / . s", 9)]:
            sheet = Sheet.read(text)
            self.assertEqual((many_fillings(sheet), count_fillings(sheet)), (many, many))
            if many <= 60:
                self.assertEqual(len(fillings(sheet, 0, 8)), many)
            else:
                self.assertEqual(error_of(fillings, sheet, 0, 1), ("TooMany", ("fillings", 60)))

    def test_counts(self):
        for chance in chances(8070, 60):
            sheet = some_gapped(chance, 3, 6)
            self.assertEqual(many_fillings(sheet), count_fillings(sheet))
        self.assertEqual(many_fillings(Sheet(["a", "b", "c"], [["a" * 8, None, None]])), 21147 ** 2)

    def test_counted_ahead_not_listed(self):
        sheet = Sheet(["one", "two"], [["abcdefgh", None]])
        self.assertEqual(error_of(fillings, sheet, 1, 8), ("TooMany", ("fillings", 60)))
        self.assertEqual(loose(sheet, ["abcdefgh"]), ("01234567",))
        self.assertEqual(str(filled(sheet, ["01234567"])), "one two : abcdefgh abcdefgh")


class Wrong(unittest.TestCase):
    def test_shared_errors(self):
        check_gap_errors(self, fillings)
        check_gap_errors(self, cell_of, 2)
        self.assertEqual(error_of(fillings, NINE, 1, 1), ("TooMany", ("places", 8)))
        self.assertEqual(error_of(fillings, MANY, 1, 1), ("TooMany", ("fillings", 60)))
        self.assertEqual(fillings(TWO, 1, 1), ())

    def test_gaps(self):
        check_wrong_gaps(self, cell_of, [])
        self.assertEqual(error_of(cell_of, GAPPED, 1, 1, 1, "two"), ("Misfit", ("gap",)))
        self.assertEqual(error_of(cell_of, WHOLE, 1, 1, 1, "two"), ("Misfit", ("gap",)))
