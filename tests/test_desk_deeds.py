import unittest

from foretongue.courses import Course
from foretongue.desk_deeds import changed
from foretongue.desk_lines import ASKS, DEEDS
from foretongue.sheets import Sheet
from foretongue.shelves import Shelf
from tests.helper import ODD, chances, error_of
from tests.plain_gaps import some_gapped
from tests.test_desk_lines import LINES, wanted_index

SHEET = Sheet.read("one two : sa . / si zi / s s")
COURSE = Course.read("u > i / * _ *")
SHELF = Shelf([("a", SHEET), ("c", COURSE), ("b", SHEET.of_rows([1]))], 0, 5)


class Deeds(unittest.TestCase):
    def check(self, line, things, answer, width=0, most=5):
        shelf, told = changed(SHELF, line)
        self.assertEqual(type(shelf), Shelf)
        self.assertEqual(shelf, Shelf(things, width, most))
        self.assertEqual((type(told), told), (str, answer))

    def test_each_deed(self):
        a, c, b = SHELF.things
        before = (SHELF.things, SHELF.width, SHELF.most)
        self.check("put d sheet x : ka", [a, c, b, ("d", Sheet(["x"], [["ka"]]))], "4")
        self.check("put d course -", [a, c, b, ("d", Course([]))], "4")
        self.check("drop c", [a, b], "2")
        self.check("drop a", [c, b], "2")
        self.check("row a ku .", [("a", SHEET.with_row(["ku", None])), c, b], "4")
        self.check("strike a 2 0", [("a", SHEET.without([2, 0])), c, b], "1")
        self.check("fill a 0 two t-", [("a", SHEET.with_cell(0, "two", "t-")), c, b], "0")
        self.check("fill b 0 one .", [a, c, ("b", b[1].with_cell(0, "one", None))], "1")
        self.check("fill a 0 two .", [a, c, b], "1")
        self.check("width 1", [a, c, b], "1", width=1)
        self.check("most 8", [a, c, b], "8", most=8)
        self.assertEqual((SHELF.things, SHELF.width, SHELF.most), before)

    def test_names_and_kinds(self):
        for line in ("drop x", "row x sa", "row x .", "strike x 99", "fill x 99 one ."):
            self.assertEqual(error_of(changed, SHELF, line), ("NoName", ("x",)))
        for line in ("row c sa sa", "strike c 0", "fill c 0 one ."):
            self.assertEqual(error_of(changed, SHELF, line), ("Misfit", ("kinds",)))
        for line in ("put a course -", "put a sheet x : ka"):
            self.assertEqual(error_of(changed, SHELF, line), ("Twice", ("a",)))

    def test_errors_of_sheets_and_numbers(self):
        for line, name, fields in [
                ("row a sa", "BadSheet", ("cells",)), ("row a . .", "BadSheet", ("cells",)), ("row a sa si so", "BadSheet", ("cells",)),
                ("row a sa s", "Misfit", ("places",)), ("row a " + "s" * 8 + " .", "TooMany", ("places", 12)),
                ("row a " + "s" * 99 + " .", "TooMany", ("places", 12)), ("strike a 3", "NoRow", (3,)),
                ("strike a 0 0 3", "NoRow", (3,)), ("strike a 0 1 0", "Twice", (0,)), ("strike a 2 1 0", "BadSheet", ("rows",)),
                ("fill a 3 x sa", "NoRow", (3,)), ("fill a 0 x sa", "NoLanguage", ("x",)), ("fill a 0 one s", "Misfit", ("places",)),
                ("fill a 0 one .", "BadSheet", ("rows",)), ("width 2", "BadNumber", ("width",)), ("most 0", "BadNumber", ("most",)),
                ("most 9", "BadNumber", ("most",)), ("width 1" + "0" * 59, "BadNumber", ("width",))]:
            self.assertEqual(error_of(changed, SHELF, line), (name, fields), line)

    def test_seventh_row(self):
        shelf = Shelf([("a", Sheet(["x"], [["a"]] * 6))])
        self.assertEqual(error_of(changed, shelf, "row a b"), ("TooMany", ("rows", 6)))

    def test_lines_that_are_no_deeds(self):
        for line in LINES:
            word = line.split(" ")[0]
            if word in ASKS and word not in DEEDS:
                self.assertEqual(error_of(changed, SHELF, line), ("BadText", (0, 0)))
                self.assertEqual(error_of(changed, SHELF, line + " x"), ("BadText", (0, 0)))
        for line in ("names A", "size", "same a x", "foo", "", "put-"):
            self.assertEqual(error_of(changed, SHELF, line), ("BadText", (0, 0)))
        self.assertEqual(error_of(changed, SHELF, "width"), ("BadText", (0, 1)))
        self.assertEqual(error_of(changed, SHELF, "most"), ("BadText", (0, 1)))
        for line in ("put x sheet", "drop", "drop A", "row a sA", "strike a", "fill a 0 one", "width 1 1", "put x sheet one : s / . "):
            self.assertEqual(error_of(changed, SHELF, line), ("BadText", (0, wanted_index(line.split(" ")))), line)
        for value in ODD:
            if not isinstance(value, str):
                self.assertEqual(error_of(changed, SHELF, value), ("BadText", (0, 0)))

    def test_wrong_shelves(self):
        for value in ODD + [SHELF.things, SHEET, Shelf]:
            self.assertEqual(error_of(changed, value, value), ("BadDesk", ("shelf",)))

    def test_any_sheet(self):
        for chance in chances(9200, 60):
            sheet = some_gapped(chance, 3, 6)
            shelf, told = changed(Shelf([("b", COURSE)]), f"put a sheet {sheet}")
            self.assertEqual((shelf, told), (Shelf([("b", COURSE), ("a", sheet)]), "2"))
            row, language = chance.randrange(len(sheet.rows)), chance.choice(sheet.languages)
            cell = chance.choice([".", *("".join(chance.choices("as-", k=length)) for length in (1, 2))])
            line = f"fill a {row} {language} {cell}"
            wanted = error_of(sheet.with_cell, row, language, None if cell == "." else cell)
            self.assertEqual(error_of(changed, shelf, line), wanted)
            if wanted is None:
                made = sheet.with_cell(row, language, None if cell == "." else cell)
                self.assertEqual(changed(shelf, line), (Shelf([("b", COURSE), ("a", made)]), str(len(made.gaps))))
