import unittest

from foretongue.asking import Ask, Key, Settled, best_gap, key_gaps, settling
from foretongue.check_gaps import shows_ask, shows_cell, shows_filled, shows_key, shows_settled
from foretongue.gaps import Filled, ForcedCell, NoFilling, OpenCell, cell_of, fillings
from foretongue.sayings import AlikeRows, Both, Same, Sizes
from foretongue.sheets import Sheet
from tests.helper import ODD, bent_parts, chances, error_of, lists_for_tuples, strangers
from tests.plain_gaps import (GAPPED, MANY, NINE, TWO, WHOLE, all_loose, cell_at, counts_at, lots_of_gaps, plain_filled,
                              plain_standing, settles, tells_apart)
from tests.plain_mothers import all_dyeings, is_mother_told, is_number, tuples
from tests.test_asking import SAME, some_cases, some_saying
from tests.test_gaps import check_gap_errors, check_wrong_gaps


def is_filled(sheet, width, most, cells, dyeing):
    if type(cells) is not tuple or any(type(cell) is not str for cell in cells) or cells not in all_loose(sheet):
        return False
    return is_mother_told(plain_filled(sheet, cells), width, most, dyeing)


def is_forced(cells):
    return len(cells) == 1 and not set(cells[0]) & set("0123456789")


def is_cell(cells, value):
    return type(value) is str and is_forced(cells) and value == cells[0]


def are_cells(cells, value):
    if type(value) is not tuple or any(type(cell) is not str for cell in value) or not cells:
        return False
    return not is_forced(cells) and sorted(value) == cells


def numbers_of(sheet, gaps):
    """The numbers of some gaps, lists as tuples, in any order, each once; None for other values."""
    if type(gaps) is not tuple:
        return None
    for gap in gaps:
        if type(gap) is not tuple or len(gap) != 2 or not is_number(gap[0]) or type(gap[1]) is not str:
            return None
        if gap not in sheet.gaps or gaps.count(gap) > 1:
            return None
    return tuple(sorted(sheet.gaps.index(gap) for gap in gaps))


def is_ask(sheet, standing, row, language, left):
    numbers = numbers_of(sheet, ((row, language),))
    if numbers is None or not standing or not is_number(left):
        return False
    counts = [max(counts_at(sheet, standing, number).values()) for number in range(len(sheet.gaps))]
    return left == counts[numbers[0]] == min(counts)


def is_fewest(sheet, standing, gaps, does):
    numbers = numbers_of(sheet, gaps)
    if numbers is None or not standing or not does(numbers):
        return False
    return len(numbers) == min(len(lot) for lot in lots_of_gaps(sheet) if does(lot))


def is_key(sheet, standing, gaps):
    return is_fewest(sheet, standing, gaps, lambda lot: tells_apart(sheet, standing, lot))


def is_settled(sheet, saying, standing, gaps):
    return is_fewest(sheet, standing, gaps, lambda lot: settles(sheet, saying, standing, lot))


class CheckGaps(unittest.TestCase):
    def test_any_filling_and_dyeing(self):
        found = {True: 0, False: 0}
        for chance, sheet, width, most, _ in some_cases(8200, 12, 2):
            for one in fillings(sheet, width, most)[:5]:
                self.assertIs(shows_filled(sheet, width, most, one), True)
            dyeings = all_dyeings(len(sheet.places))
            for cells in chance.sample(all_loose(sheet), min(4, len(all_loose(sheet)))):
                for dyeing in chance.sample(dyeings, min(12, len(dyeings))):
                    wanted = is_filled(sheet, width, most, cells, dyeing)
                    found[wanted] += 1
                    self.assertIs(shows_filled(sheet, width, most, Filled(list(cells), list(dyeing))), wanted)
        self.assertGreater(min(found.values()), 50)

    def test_bent_fillings(self):
        for sheet, most in [(GAPPED, 3), (TWO, 2), (WHOLE, 3)]:
            for told in fillings(sheet, 1, most)[:4]:
                for bent in bent_parts(told.parts):
                    if len(bent) == 2:
                        wanted = is_filled(sheet, 1, most, *tuples(bent))
                        self.assertIs(shows_filled(sheet, 1, most, Filled(*bent)), wanted, bent)

    def test_cells_in_any_order(self):
        kinds = set()
        for chance, sheet, width, most, standing in some_cases(8210, 25, 2):
            for number, (row, language) in enumerate(sheet.gaps):
                cells = sorted(counts_at(sheet, standing, number))
                turned = chance.sample(cells, len(cells))
                papers = [(NoFilling(), not cells), (OpenCell(turned), bool(cells) and not is_forced(cells))]
                papers += [(ForcedCell(cell), is_cell(cells, cell)) for cell in cells[:3] + ["s"]]
                papers += [(OpenCell(turned[1:]), False), (OpenCell(turned + turned[:1]), False and bool(turned)),
                           (OpenCell([*turned, "zz"]), False)]
                for paper, wanted in papers:
                    if paper.parts == ((),) and not cells:
                        wanted = False
                    kinds.add((paper.kind, wanted))
                    self.assertIs(shows_cell(sheet, width, most, row, language, paper), wanted, paper.parts)
        self.assertEqual(len(kinds), 6)

    def test_bent_cells(self):
        forced = Sheet(["one", "two"], [["sa", None], ["sa", "zo"]])
        for sheet, width, most in [(GAPPED, 1, 2), (forced, 0, 2), (TWO, 1, 1)]:
            cells = sorted({cell_at(sheet, told, 0) for told in plain_standing(sheet, width, most)})
            right = NoFilling() if not cells else cell_of(sheet, width, most, *sheet.gaps[0])
            self.assertIs(shows_cell(sheet, width, most, *sheet.gaps[0], right), True)
            for bent in bent_parts((cells[0] if is_forced(cells) else tuple(cells),)):
                if len(bent) == 1:
                    told = tuples(bent[0])
                    self.assertIs(shows_cell(sheet, width, most, *sheet.gaps[0], ForcedCell(*bent)), is_cell(cells, told))
                    self.assertIs(shows_cell(sheet, width, most, *sheet.gaps[0], OpenCell(*bent)), are_cells(cells, told))

    def test_asks_and_keys(self):
        found = set()
        for chance, sheet, width, most, standing in some_cases(8220, 20, 3):
            for row, language in [*sheet.gaps, (0, "one")]:
                for left in range(len(standing) + 2):
                    wanted = is_ask(sheet, standing, row, language, left)
                    found.add(("ask", wanted))
                    self.assertIs(shows_ask(sheet, width, most, Ask(row, language, left)), wanted)
            for lot in lots_of_gaps(sheet):
                gaps = tuple(sheet.gaps[number] for number in chance.sample(lot, len(lot)))
                wanted = is_key(sheet, standing, gaps)
                found.add(("key", wanted))
                self.assertIs(shows_key(sheet, width, most, Key(lists_for_tuples(gaps))), wanted)
        self.assertEqual(len(found), 4)

    def test_settled(self):
        found = set()
        for chance, sheet, width, most, standing in some_cases(8230, 25, 2):
            saying = some_saying(chance, sheet, 2)
            for lot in lots_of_gaps(sheet):
                gaps = tuple(sheet.gaps[number] for number in chance.sample(lot, len(lot)))
                wanted = is_settled(sheet, saying, standing, gaps)
                found.add((len(gaps) > 0, wanted))
                self.assertIs(shows_settled(sheet, width, most, saying, Settled(lists_for_tuples(gaps))), wanted)
        self.assertEqual(len(found), 4)

    def test_bent_gaps(self):
        alike = Same((0, 0), (1, 0))
        standing = plain_standing(TWO, 1, 2)
        for bent in bent_parts(best_gap(TWO, 1, 2).parts):
            if len(bent) == 3:
                self.assertIs(shows_ask(TWO, 1, 2, Ask(*bent)), is_ask(TWO, standing, *tuples(bent)), bent)
        for bent in bent_parts(key_gaps(TWO, 1, 2).parts):
            if len(bent) == 1:
                self.assertIs(shows_key(TWO, 1, 2, Key(*bent)), is_key(TWO, standing, tuples(bent[0])), bent)
        for bent in bent_parts(settling(TWO, 1, 2, alike).parts):
            if len(bent) == 1:
                wanted = is_settled(TWO, alike, standing, tuples(bent[0]))
                self.assertIs(shows_settled(TWO, 1, 2, alike, Settled(*bent)), wanted, bent)

    def test_no_filling_can_stand(self):
        self.assertIs(shows_ask(TWO, 1, 1, Ask(0, "two", 0)), False)
        self.assertIs(shows_key(TWO, 1, 1, Key([])), False)
        self.assertIs(shows_settled(TWO, 1, 1, Sizes(1), Settled([])), False)
        self.assertIs(shows_key(WHOLE, 0, 3, Key([])), False)

    def test_whole_sheets(self):
        self.assertIs(shows_ask(WHOLE, 1, 3, Ask(0, "two", 1)), False)
        self.assertIs(shows_key(WHOLE, 1, 3, Key([])), True)
        self.assertIs(shows_settled(WHOLE, 1, 3, SAME, Settled([])), True)
        self.assertIs(shows_settled(WHOLE, 1, 4, Same((0, 0), (1, 0)), Settled([])), False)
        self.assertIs(shows_filled(WHOLE, 1, 4, Filled([], [0, 1, 2, 3])), True)

    def test_any_other_value(self):
        told = fillings(TWO, 1, 2)[0]
        ask, key, settled = best_gap(TWO, 1, 2), key_gaps(TWO, 1, 2), settling(TWO, 1, 2, Same((0, 0), (1, 0)))
        one, none = cell_of(TWO, 1, 2, 0, "two"), NoFilling()
        every = [told, ask, key, settled, one, none]
        for value in ODD + strangers(Filled, *told.parts) + every[1:]:
            self.assertIs(shows_filled(TWO, 1, 2, value), False)
        for value in ODD + strangers(Ask, *ask.parts) + every[:1] + every[2:]:
            self.assertIs(shows_ask(TWO, 1, 2, value), False)
        for value in ODD + strangers(Key, *key.parts) + every[:2] + every[3:]:
            self.assertIs(shows_key(TWO, 1, 2, value), False)
        for value in ODD + strangers(Settled, *settled.parts) + every[:3] + every[4:]:
            self.assertIs(shows_settled(TWO, 1, 2, Same((0, 0), (1, 0)), value), False)
        for value in ODD + strangers(OpenCell, *one.parts) + every[:4] + [none]:
            self.assertIs(shows_cell(TWO, 1, 2, 0, "two", value), False)
        for value in ODD + strangers(NoFilling) + every[:5]:
            self.assertIs(shows_cell(TWO, 1, 1, 0, "two", value), False)

    def test_wrong(self):
        for call, more in [(shows_filled, 1), (shows_cell, 3), (shows_ask, 1), (shows_key, 1), (shows_settled, 2)]:
            check_gap_errors(self, call, more)
        check_wrong_gaps(self, shows_cell, [None])
        for call in (shows_ask, shows_key):
            self.assertEqual(error_of(call, NINE, 1, 1, None), ("TooMany", ("places", 8)))
            self.assertEqual(error_of(call, MANY, 1, 1, None), ("TooMany", ("fillings", 60)))
        self.assertEqual(error_of(shows_filled, NINE, 1, 1, None), ("TooMany", ("places", 8)))
        self.assertIs(shows_filled(MANY, 1, 6, Filled(["sa", "sa"], [0, 1, 0, 1, 2, 3])), False)
        self.assertIs(shows_filled(MANY, 1, 6, Filled(["ss", "ss"], [0, 1, 0, 1, 2, 3])), True)
        whole = Sheet(["x"], [["a" * 9]])
        self.assertEqual(error_of(shows_ask, whole, 1, 1, None), ("TooMany", ("places", 8)))

    def test_wrong_sayings(self):
        for value in ODD:
            self.assertEqual(error_of(shows_settled, NINE, 1, 1, value, None), ("BadSaying", ("saying",)))
        strange = Both(Same((0, 0), (0, 9)), AlikeRows(0, 7))
        self.assertEqual(error_of(shows_settled, NINE, 1, 1, strange, None), ("NoPlace", ((0, 9),)))
        self.assertEqual(error_of(shows_settled, NINE, 1, 1, AlikeRows(0, 7), None), ("NoRow", (7,)))
        self.assertEqual(error_of(shows_settled, NINE, 1, 1, SAME, None), ("TooMany", ("places", 8)))
        self.assertEqual(error_of(shows_settled, MANY, 1, 1, SAME, None), ("TooMany", ("fillings", 60)))
