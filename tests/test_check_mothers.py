import unittest

from foretongue.check_mothers import shows_barring, shows_least, shows_mother
from foretongue.refusing import Barring, Least, Mother, NoMother, barring_rows, least_size, mother_of
from foretongue.sheets import Sheet
from tests.helper import ODD, bent_parts, chances, lists_for_tuples, strangers
from tests.plain_mothers import (NINE, all_dyeings, check_errors, is_mother_told, is_plain_dyeing, mothers_of_rows, no_end,
                                 orders_of_places, plain_mothers, plain_right_tree, plain_tree, size, some_whole_sheet, tuples)
from tests.test_refusing import lots_of_rows, plain_barring, struck

SHEET = Sheet(["one", "two"], [["sa", "sa"], ["si", "zi"]])


def is_least(sheet, width, dyeing, tree):
    if not is_mother_told(sheet, width, 99, dyeing):
        return False
    return tree is None if size(dyeing) == 1 else plain_right_tree(sheet, width, size(dyeing) - 1, tree, no_end)


def is_barring(sheet, width, most, rows, tree, others):
    if type(rows) is not tuple or any(type(row) is not int for row in rows) or rows not in lots_of_rows(sheet):
        return False
    if type(others) is not tuple or len(others) != len(rows):
        return False
    for left, dyeing in zip(struck(rows), others):
        if left and not is_mother_told(sheet.of_rows(left), width, most, dyeing) or not left and dyeing != ():
            return False
    return plain_right_tree(sheet.of_rows(rows), width, most, tree, no_end)


class CheckMothers(unittest.TestCase):
    def test_any_dyeing(self):
        for chance in chances(1900, 20):
            sheet = some_whole_sheet(chance, 5)
            for width in (0, 1):
                for dyeing in all_dyeings(len(sheet.places)) + [(0,) * 6, ()]:
                    for most in range(1, 7):
                        wanted = is_mother_told(sheet, width, most, dyeing)
                        self.assertIs(shows_mother(sheet, width, most, Mother(list(dyeing))), wanted)
                        self.assertIs(shows_barring(sheet, width, most, Mother(dyeing)), wanted)

    def test_any_order_of_places(self):
        trees = 0
        for chance in chances(1910, 60):
            sheet = some_whole_sheet(chance, 6)
            for width in (0, 1):
                fewest = min(map(size, plain_mothers(sheet, width)))
                for most in range(1, fewest):
                    tree = plain_tree(sheet, width, most, orders_of_places(chance, sheet), no_end)
                    trees += 1
                    for told in range(1, 9):
                        wanted = plain_right_tree(sheet, width, told, tree, no_end)
                        self.assertIs(shows_mother(sheet, width, told, NoMother(lists_for_tuples(tree))), wanted)
                    for dyeing in plain_mothers(sheet, width)[:20]:
                        wanted = is_least(sheet, width, dyeing, tree)
                        self.assertIs(shows_least(sheet, width, Least(dyeing, tree)), wanted)
        self.assertGreater(trees, 100)

    def test_bent_trees(self):
        bent_ones, right_ones = 0, 0
        for chance in chances(1920, 25):
            sheet = some_whole_sheet(chance, 4)
            width = chance.randrange(2)
            fewest = min(map(size, plain_mothers(sheet, width)))
            if fewest > 1:
                most = chance.randrange(1, fewest)
                tree = plain_tree(sheet, width, most, orders_of_places(chance, sheet), no_end)
                for bent in bent_parts((tree,)):
                    if len(bent) == 1:
                        wanted = plain_right_tree(sheet, width, most, tuples(bent[0]), no_end)
                        bent_ones, right_ones = bent_ones + 1, right_ones + wanted
                        self.assertIs(shows_mother(sheet, width, most, NoMother(*bent)), wanted, (str(sheet), bent))
        self.assertGreater(bent_ones, 5000)
        self.assertGreater(right_ones, 0)

    def test_bent_least(self):
        for chance in chances(1940, 15):
            sheet = some_whole_sheet(chance, 3)
            width = chance.randrange(2)
            told = least_size(sheet, width)
            self.assertIs(shows_least(sheet, width, told), True)
            for bent in bent_parts(told.parts):
                if len(bent) == 2:
                    wanted = is_least(sheet, width, *tuples(bent))
                    self.assertIs(shows_least(sheet, width, Least(*bent)), wanted, bent)

    def test_any_rows_that_bar(self):
        found = 0
        for chance in chances(1950, 60):
            sheet = some_whole_sheet(chance, 6)
            width, most = chance.randrange(2), chance.randrange(1, 4)
            for rows in lots_of_rows(sheet):
                part = sheet.of_rows(rows)
                if not plain_mothers(part, width, most):
                    tree = plain_tree(part, width, most, orders_of_places(chance, part), no_end)
                    others = [chance.choice(mothers_of_rows(sheet, width, most, left) or [()]) for left in struck(rows)]
                    wanted = rows in plain_barring(sheet, width, most)
                    found += wanted
                    self.assertIs(shows_barring(sheet, width, most, Barring(rows, tree, lists_for_tuples(others))), wanted)
        self.assertGreater(found, 30)

    def test_bent_barring(self):
        bent_ones = 0
        for chance in chances(1960, 40):
            sheet = some_whole_sheet(chance, 5)
            width, most = chance.randrange(2), chance.randrange(1, 3)
            told = barring_rows(sheet, width, most)
            self.assertIs(shows_barring(sheet, width, most, told), True)
            if isinstance(told, Barring) and len(str(told.parts)) < 120:
                for bent in bent_parts(told.parts):
                    if len(bent) == 3:
                        bent_ones += 1
                        wanted = is_barring(sheet, width, most, *tuples(bent))
                        self.assertIs(shows_barring(sheet, width, most, Barring(*bent)), wanted, bent)
        self.assertGreater(bent_ones, 1000)

    def test_one_row_and_none(self):
        tree = (0, [(1, [(0, 1)])])
        self.assertIs(shows_barring(SHEET, 1, 1, Barring([0], tree, [[]])), True)
        for others in [[], [[0]], [[], []], [None], [0], [""], [[1]], 0]:
            self.assertIs(shows_barring(SHEET, 1, 1, Barring([0], tree, others)), False)
        for rows in [[], [2], [0, 0], [-1], [True], 0, None]:
            self.assertIs(shows_barring(SHEET, 1, 1, Barring(rows, tree, [])), False)
            self.assertIs(shows_barring(SHEET, 1, 1, Barring(rows, tree, [[]])), False)

    def test_beyond_eight_places(self):
        sheet = Sheet(["x", "y"], [["abcd", "abcd"], ["efgh", "efgh"], ["ijkl", "ijkl"]])
        every = tuple(range(12))
        self.assertIs(shows_least(sheet, 1, Least(every, plain_tree(sheet, 1, 11, every, no_end))), True)
        self.assertIs(shows_least(sheet, 1, Least(every, plain_tree(sheet, 1, 10, every, no_end))), False)
        self.assertIs(shows_mother(sheet, 0, 8, NoMother(plain_tree(sheet, 0, 8, every[::-1], no_end))), True)
        self.assertIs(shows_mother(sheet, 0, 8, Mother(every)), False)
        part = sheet.of_rows([0, 2])
        others = [(0, 1, 2, 3), (0, 1, 2, 3)]
        tree = plain_tree(part, 1, 7, range(8), no_end)
        self.assertIs(shows_barring(sheet, 1, 7, Barring([0, 2], tree, others)), True)
        self.assertIs(shows_barring(sheet, 1, 7, Barring([0, 1, 2], plain_tree(sheet, 1, 7, every, no_end), others)), False)
        self.assertIs(shows_mother(NINE, 1, 1, Mother([0] * 9)), True)

    def test_any_other_value(self):
        no, least, barring = mother_of(SHEET, 1, 2), least_size(SHEET, 1), barring_rows(SHEET, 1, 2)
        for value in ODD + strangers(NoMother, no.tree) + [least, barring, Mother((0, 1, 0, 2))]:
            self.assertIs(shows_mother(SHEET, 1, 2, value), False)
        for value in ODD + strangers(Mother, (0, 1, 0, 2)) + [least, barring, no]:
            self.assertIs(shows_mother(SHEET, 1, 3, value), False)
            self.assertIs(shows_barring(SHEET, 1, 3, value), False)
        for value in ODD + strangers(Least, *least.parts) + [Mother((0, 1, 0, 2)), no]:
            self.assertIs(shows_least(SHEET, 1, value), False)
        for value in ODD + strangers(Barring, *barring.parts) + [no, least]:
            self.assertIs(shows_barring(SHEET, 1, 2, value), False)
        for value in ODD:
            self.assertIs(shows_mother(SHEET, 1, 3, Mother(value)), False)
            self.assertIs(shows_mother(SHEET, 1, 3, NoMother(value)), False)
            self.assertFalse(is_plain_dyeing(value) and shows_least(SHEET, 1, Least(value, None)))

    def test_deep_values(self):
        deep = (0, 1)
        for _ in range(29):
            deep = (0, (deep,))
        self.assertIs(shows_mother(SHEET, 1, 2, NoMother(deep)), False)

    def test_wrong(self):
        for call in (shows_mother, shows_least, shows_barring):
            check_errors(self, call, call is not shows_least, 1)
