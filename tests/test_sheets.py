import unittest

from foretongue.sheets import Sheet
from tests.helper import ODD, bent_items, chances, error_of, wanted_index

WIDE = Sheet(["one", "two"], [["sa", "sa"], ["s-", None], ["si", "zi"]])
SIX = Sheet(["x"], [["a"]] * 6)


def some_sheet(chance, most=4):
    """A sheet of at most so many languages, with gaps."""
    languages = ["one", "b2", "x", "y"][:chance.randrange(1, most + 1)]
    rows, room = [], 12
    for _ in range(chance.randrange(1, 7)):
        length = chance.randrange(1, min(4, room) + 1) if room else 0
        if length:
            row = ["".join(chance.choices("ask-", k=length)) if chance.random() < 0.7 else None for _ in languages]
            if row == [None] * len(row):
                row[0] = "-" * length
            rows.append(row)
            room -= length
    return Sheet(languages, rows)


def sheet_of_items(items):
    """A sheet of the items of a text, made without reading."""
    at = items.index(":")
    rows = [[]]
    for item in items[at + 1:]:
        if item == "/":
            rows.append([])
        else:
            rows[-1].append(None if item == "." else item)
    return Sheet(items[:at], rows)


def is_sheet_text(items):
    if ":" not in items or error_of(sheet_of_items, items) is not None:
        return False
    return str(sheet_of_items(items)) == " ".join(items)


def can_begin(items):
    """Whether some items can begin the text of a sheet: some filler makes a whole one of them."""
    if is_sheet_text(items):
        return True
    begins = [[], [":"], ["zz", ":"]] if ":" not in items else [[]]
    for begin in begins:
        told = items + begin
        if ":" in told:
            many = told.index(":")
            stands = told[many + 1:][::-1]
            row = stands[:stands.index("/")] if "/" in stands else stands
            lengths = {len(item) for item in row if item != "."} or {1}
            for missing in range(many + 1):
                for length in lengths:
                    if is_sheet_text(told + ["a" * length] * missing):
                        return True
    return False


class Making(unittest.TestCase):
    def test_attributes(self):
        self.assertEqual(WIDE.languages, ("one", "two"))
        self.assertEqual(WIDE.rows, (("sa", "sa"), ("s-", None), ("si", "zi")))
        self.assertEqual(WIDE.places, ((0, 0), (0, 1), (1, 0), (1, 1), (2, 0), (2, 1)))
        self.assertEqual(WIDE.gaps, ((1, "two"),))
        self.assertIs(WIDE.is_whole, False)
        self.assertIs(WIDE.without([1]).is_whole, True)
        gaps = Sheet(["a", "b", "c"], [[None, "x", None], ["y", None, "-"]])
        self.assertEqual(gaps.gaps, ((0, "a"), (0, "c"), (1, "b")))
        self.assertEqual(Sheet(("a",), (("--",),)).places, ((0, 0), (0, 1)))

    def test_what_is_passed_is_copied(self):
        languages, rows = ["a", "b"], [["x", None]]
        sheet = Sheet(languages, rows)
        languages[0] = "c"
        rows[0][1] = "y"
        rows.append(["z", "z"])
        self.assertEqual(str(sheet), "a b : x .")

    def test_equality(self):
        self.assertEqual(Sheet(["a"], [["x"]]), Sheet(("a",), [("x",)]))
        for other in [Sheet(["b"], [["x"]]), Sheet(["a"], [["y"]]), Sheet(["a"], [["x"], ["x"]]),
                      Sheet(["a", "b"], [["x", "x"]]), None, "a : x", 1]:
            self.assertFalse(Sheet(["a"], [["x"]]) == other)

    def test_wrong_languages(self):
        for value in ODD + ["ab", ["a", "B"], [["a"]], ["a", None], ["1"], ["a" * 13], ("a", "a-")]:
            if value not in (["a"], ("a", "b")):
                self.assertEqual(error_of(Sheet, value, value), ("BadSheet", ("languages",)), value)
        self.assertEqual(error_of(Sheet, ["a", "b", "b", "a"], None), ("Twice", ("b",)))
        self.assertEqual(error_of(Sheet, ["a", "a", "A"], None), ("BadSheet", ("languages",)))

    def test_wrong_rows(self):
        for value in ODD + ["x", ["x"], [["X"]], [["x", "x"]], [[""]], [["x"], [None]], [[None]], [["x"], []], [[1]], [["x1"]],
                            [["."]], [["x"], None], [[b"x"]], [[True]]]:
            self.assertEqual(error_of(Sheet, ["a"], value), ("BadSheet", ("rows",)), value)
        self.assertIsNone(error_of(Sheet, ["a"], [["x"], ("-",)]))

    def test_errors_in_their_order(self):
        five, rows = ["a", "b", "c", "d", "e"], [["xy", "x", "x", "x", "x"]]
        self.assertEqual(error_of(Sheet, five, rows + [[None] * 5]), ("BadSheet", ("rows",)))
        self.assertEqual(error_of(Sheet, five, rows * 7), ("Misfit", ("places",)))
        self.assertEqual(error_of(Sheet, five, [["xy"] * 5] * 7), ("TooMany", ("languages", 4)))
        self.assertEqual(error_of(Sheet, five[:4], [["xy"] * 4] * 7), ("TooMany", ("rows", 6)))
        self.assertEqual(error_of(Sheet, five[:4], [["xyz"] * 4] * 6), ("TooMany", ("places", 12)))
        self.assertIsNone(error_of(Sheet, five[:4], [["xy"] * 4] * 6))
        self.assertIsNone(error_of(Sheet, ["a"], [["x" * 12]]))
        self.assertEqual(error_of(Sheet, ["a"], [["x" * 13]]), ("TooMany", ("places", 12)))
        self.assertEqual(error_of(Sheet, ["a"], [["x" * 11], ["xx"]]), ("TooMany", ("places", 12)))
        self.assertEqual(error_of(Sheet, ["a", "b"], [["x", "xx"]]), ("Misfit", ("places",)))


class Reading(unittest.TestCase):
    def test_texts(self):
        for chance in chances(800, 80):
            sheet = some_sheet(chance)
            self.assertEqual(Sheet.read(str(sheet)), sheet)
        self.assertEqual(str(Sheet(["a", "b"], [[None, "x-"], ["y", None]])), "a b : . x- / y .")

    def test_bent_texts(self):
        others = ["", "a", "one", "-", ".", ":", "/", "sa", "s" * 11, "s" * 12, "s" * 13, "A", "a1", "1", "*"]
        texts = ["one two : sa sa / s- . / si zi", "a : x", "a b c : . . x / y . .", "a b c d : x x x x",
                 "a : " + " / ".join(["xx"] * 6), "a b : " + " / ".join(["x ."] * 6), "one : " + "s" * 12,
                 "a b : . " + "s" * 11 + " / . s"]
        for text in texts:
            for items in bent_items(text.split(" "), others):
                told = " ".join(items).split(" ")
                index = wanted_index(told, can_begin, is_sheet_text)
                wanted = None if index is None else ("BadText", (0, index))
                self.assertEqual(error_of(Sheet.read, " ".join(items)), wanted, items)

    def test_told_faults(self):
        six = " / ".join(["x"] * 6)
        for text, item in [("", 0), (":", 0), ("a", 1), ("a :", 2), ("a a : x x", 1), ("a b c d e : x x x x x", 4),
                           ("a : .", 2), ("a b : . .", 4), ("a b : x xx", 4), ("a b : x", 4), ("a : x /", 4),
                           ("a : " + six + " / x", 13), ("a : " + "x" * 12 + " / x", 3), ("a : " + "x" * 13, 2),
                           ("a : xx / " + "x" * 11, 4), ("a : x ", 3), ("a : x y", 3), (" a : x", 0), ("a  : x", 1),
                           ("a : x\n", 2), ("a : x / . / x", 4), ("a b c d : x x x x x", 9)]:
            self.assertEqual(error_of(Sheet.read, text), ("BadText", (0, item)), text)
        for value in ODD + [WIDE]:
            if not isinstance(value, str):
                self.assertEqual(error_of(Sheet.read, value), ("BadText", (0, 0)))


class Asking(unittest.TestCase):
    def test_cells_words_and_places(self):
        for chance in chances(810, 40):
            sheet = some_sheet(chance)
            number = 0
            for row, cells in enumerate(sheet.rows):
                for language, cell in zip(sheet.languages, cells):
                    self.assertEqual(sheet.cell(row, language), cell)
                    word = None if cell is None else "".join(sign for sign in cell if sign != "-")
                    self.assertEqual(sheet.word(row, language), word)
                length = max(len(cell) for cell in cells if cell is not None)
                self.assertEqual(sheet.places_of(row), tuple(range(number, number + length)))
                for at in range(length):
                    column = tuple(None if cell is None else cell[at] for cell in cells)
                    self.assertEqual(sheet.column(number), column)
                    self.assertEqual(sheet.number_of([row, at]), number)
                    self.assertEqual(sheet.places[number], (row, at))
                    number += 1
            self.assertEqual(len(sheet.places), number)

    def test_wrong_rows_and_languages(self):
        for call in (WIDE.cell, WIDE.word):
            for value in ODD + [3, -1, "0", [0], 0.0, True]:
                if value is False or value != 0 or isinstance(value, float):
                    self.assertEqual(error_of(call, value, value), ("NoRow", (value,)))
                self.assertEqual(error_of(call, 2, value), ("NoLanguage", (value,)))
            self.assertEqual(error_of(call, 0, "three"), ("NoLanguage", ("three",)))
        for value in [3, -1, True, False, None, "0", 1.0, [0], 10 ** 40]:
            self.assertEqual(error_of(WIDE.places_of, value), ("NoRow", (value,)))

    def test_wrong_places(self):
        for value in [6, -1, True, False, None, "0", 1.0, [0, 0], (0, 0), 10 ** 40, {}]:
            self.assertEqual(error_of(WIDE.column, value), ("NoPlace", (value,)))
        for value in [0, None, True, "00", (0,), (0, 0, 0), (0, 2), (3, 0), (-1, 0), (0, -1), (False, 0), [0, True], [0.0, 0],
                      ["0", 0], {}, [[0], 0], ((0, 0), 0)]:
            self.assertEqual(error_of(WIDE.number_of, value), ("NoPlace", (value,)))
        self.assertEqual(WIDE.number_of((2, 1)), 5)


class Further(unittest.TestCase):
    def test_of_rows_and_without(self):
        for chance in chances(820, 30):
            sheet = some_sheet(chance)
            rows = chance.sample(range(len(sheet.rows)), chance.randrange(1, len(sheet.rows) + 1))
            self.assertEqual(sheet.of_rows(rows), Sheet(sheet.languages, [sheet.rows[row] for row in rows]))
            left = [cells for row, cells in enumerate(sheet.rows) if row not in rows]
            if left:
                self.assertEqual(sheet.without(tuple(rows)), Sheet(sheet.languages, left))
            else:
                self.assertEqual(error_of(sheet.without, rows), ("BadSheet", ("rows",)))
            self.assertEqual(sheet.without([]), sheet)

    def test_wrong_lists_of_rows(self):
        for call in (WIDE.of_rows, WIDE.without):
            for value in ODD + [[0, None], [True], ["0"], [0, 0.0], "0", {0: 1}, 0, [[0]]]:
                if value not in ([], ()):
                    self.assertEqual(error_of(call, value), ("BadNumber", ("rows",)), value)
            for rows, wrong in [([0, 3, -1], 3), ([0, 0, -1], -1), ([7], 7), ((0, 1, 2, 10 ** 40), 10 ** 40)]:
                self.assertEqual(error_of(call, rows), ("NoRow", (wrong,)))
            self.assertEqual(error_of(call, [0, 2, 1, 2, 0]), ("Twice", (2,)))
            self.assertEqual(error_of(call, [0, 1, 2, 1]), ("Twice", (1,)))
        for value in ([], ()):
            self.assertEqual(error_of(WIDE.of_rows, value), ("BadNumber", ("rows",)))
        self.assertEqual(error_of(WIDE.without, [2, 1, 0]), ("BadSheet", ("rows",)))
        self.assertEqual(str(WIDE), "one two : sa sa / s- . / si zi")

    def test_of_languages(self):
        sheet = Sheet(["a", "b", "c"], [["x", "y", None], ["z", None, "-"]])
        self.assertEqual(str(sheet.of_languages(["c", "a"])), "c a : . x / - z")
        self.assertEqual(sheet.of_languages(sheet.languages), sheet)
        for value in ODD + ["a", ["a", "A"], ["a", None], [["a"]], [True], {"a": 1}]:
            if value not in (["a"], ("a", "b")):
                self.assertEqual(error_of(sheet.of_languages, value), ("BadSheet", ("languages",)))
        self.assertEqual(error_of(sheet.of_languages, ["a", "a", "d"]), ("NoLanguage", ("d",)))
        self.assertEqual(error_of(sheet.of_languages, ["c", "c"]), ("Twice", ("c",)))
        self.assertEqual(error_of(sheet.of_languages, ["b"]), ("BadSheet", ("rows",)))
        self.assertEqual(error_of(sheet.of_languages, ["c"]), ("BadSheet", ("rows",)))

    def test_with_cell(self):
        self.assertEqual(str(WIDE.with_cell(1, "two", "-i")), "one two : sa sa / s- -i / si zi")
        self.assertEqual(str(WIDE.with_cell(0, "one", None)), "one two : . sa / s- . / si zi")
        self.assertEqual(WIDE.with_cell(1, "two", None), WIDE)
        for value in ODD + [3, -1]:
            if value is False or value != 0:
                self.assertEqual(error_of(WIDE.with_cell, value, value, value), ("NoRow", (value,)))
            self.assertEqual(error_of(WIDE.with_cell, 1, value, value), ("NoLanguage", (value,)))
            if value is not None and value not in ("-", "aaaaaaaaaaaaa"):
                self.assertEqual(error_of(WIDE.with_cell, 1, "one", value), ("BadSheet", ("cell",)))
        for cell in ["", "A", "sA", "s.", ".", "s ", "s1", "\u00e4s"]:
            self.assertEqual(error_of(WIDE.with_cell, 1, "two", cell), ("BadSheet", ("cell",)))
        for cell in ["s", "sas", "-", "a" * 100]:
            for language in ("one", "two"):
                self.assertEqual(error_of(WIDE.with_cell, 1, language, cell), ("Misfit", ("places",)))
        self.assertEqual(error_of(WIDE.with_cell, 1, "one", None), ("BadSheet", ("rows",)))
        self.assertEqual(str(WIDE), "one two : sa sa / s- . / si zi")

    def test_with_row(self):
        self.assertEqual(str(WIDE.with_row((None, "abc"))), str(WIDE) + " / . abc")
        for value in ODD + [["a"], ["a", "b", "c"], ["a", ""], [None, None], ["a", "A"], ["a", 1], "ab", [["a"], ["b"]]]:
            if value != ("a", "b"):
                self.assertEqual(error_of(WIDE.with_row, value), ("BadSheet", ("cells",)), value)
        self.assertEqual(error_of(WIDE.with_row, ["ab", "a"]), ("Misfit", ("places",)))
        self.assertEqual(error_of(WIDE.with_row, ["a" * 7, None]), ("TooMany", ("places", 12)))
        self.assertIsNone(error_of(WIDE.with_row, ["a" * 6, None]))
        self.assertEqual(error_of(SIX.with_row, ["a" * 7]), ("TooMany", ("rows", 6)))
        two = Sheet(["a", "b"], [["x", "x"]] * 6)
        self.assertEqual(error_of(two.with_row, ["ab", "a"]), ("Misfit", ("places",)))
        self.assertEqual(str(SIX), "x : a / a / a / a / a / a")

    def test_joined(self):
        one, other = Sheet(["a", "b"], [["xy", None], ["-", "z"]]), Sheet(["c", "d"], [["zz", "--"], [None, "i"]])
        self.assertEqual(str(one.joined(other)), "a b c d : xy . zz -- / - z . i")
        self.assertEqual(str(other.joined(one)), "c d a b : zz -- xy . / . i - z")
        for value in ODD + ["c : x"]:
            self.assertEqual(error_of(one.joined, value), ("BadSheet", ("other",)))
        self.assertEqual(error_of(one.joined, Sheet(["c", "b", "a"], [["x"] * 3])), ("Twice", ("b",)))
        for rows in [[["x"], ["xy"]], [["xy"]], [["xy"], ["x"], ["x"]], [["x"], ["x"]], [["x"], ["x"], ["x"]]]:
            self.assertEqual(error_of(one.joined, Sheet(["c"], rows)), ("Misfit", ("places",)))
        three = Sheet(["c", "d", "e"], [["x"] * 3])
        self.assertEqual(error_of(one.joined, three), ("Misfit", ("places",)))
        three = Sheet(["c", "d", "e"], [["xy"] * 3, ["x"] * 3])
        self.assertEqual(error_of(one.joined, three), ("TooMany", ("languages", 4)))
        self.assertIsNone(error_of(one.joined, three.of_languages(["e", "c"])))
