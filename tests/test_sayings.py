import unittest

from foretongue.sayings import AlikeRows, Both, Not, Same, Saying, Sizes, holds, told_of
from foretongue.sheets import Sheet
from tests.helper import ODD, bent_items, chances, error_of, wanted_index
from tests.plain_mothers import GAPS, all_dyeings, plain_holds, some_saying, some_whole_sheet

SHEET = Sheet(["one", "two"], [["sa", "sa"], ["si", "zi"], ["a", "a"]])
CLASSES = (Same, AlikeRows, Sizes, Not, Both)


def deep_not(many):
    """A saying of so many sayings."""
    saying = Sizes(1)
    for _ in range(many - 1):
        saying = Not(saying)
    return saying


def wide_both(many):
    """A saying of so many sayings, an odd number, all Both to the left."""
    saying = Sizes(1)
    for _ in range(many // 2):
        saying = Both(saying, Sizes(2))
    return saying


class Making(unittest.TestCase):
    def test_attributes(self):
        same = Same([4, 1], (2, 0))
        self.assertEqual((same.place, same.other, same.rows, same.many), ((4, 1), (2, 0), (2, 4), 1))
        self.assertEqual(Same((3, 0), (3, 1)).rows, (3,))
        rows = AlikeRows(7, 2)
        self.assertEqual((rows.row, rows.other, rows.rows, rows.many), (7, 2, (2, 7), 1))
        sizes = Sizes(12)
        self.assertEqual((sizes.size, sizes.rows, sizes.many), (12, (), 1))
        no = Not(rows)
        self.assertEqual((no.saying, no.rows, no.many), (rows, (2, 7), 2))
        both = Both(no, same)
        self.assertEqual((both.one, both.other, both.rows, both.many), (no, same, (2, 4, 7), 4))
        for made in CLASSES:
            self.assertTrue(issubclass(made, Saying))
            self.assertEqual([other for other in CLASSES if issubclass(made, other)], [made])
            for method in ("__init__", "__eq__", "__str__", "__invert__", "__and__"):
                self.assertIn(method, vars(made))

    def test_what_is_passed_is_copied(self):
        place = [0, 1]
        same = Same(place, [0, 2])
        place[1] = 2
        self.assertEqual(str(same), "same 0 1 0 2")

    def test_signs(self):
        for chance in chances(2000, 20):
            one, other = (some_saying(chance, SHEET, 1) for _ in "ab")
            self.assertEqual(~one, Not(one))
            self.assertEqual(one & other, Both(one, other))
            self.assertEqual(~one & ~(one & other), Both(Not(one), Not(Both(one, other))))

    def test_equality(self):
        told = [Same((0, 1), (2, 0)), Same((2, 0), (0, 1)), Same((0, 1), (2, 1)), Same((1, 1), (2, 0)),
                AlikeRows(0, 1), AlikeRows(1, 0), AlikeRows(0, 2), AlikeRows(2, 1), Both(Sizes(3), Sizes(5)),
                Both(Sizes(5), Sizes(4)), Sizes(3), Sizes(4), Not(Sizes(3)), Not(Sizes(4)), Both(Sizes(3), Sizes(4)), Both(Sizes(4), Sizes(3)), Not(Not(Sizes(3)))]
        for at, one in enumerate(told):
            for to, other in enumerate(told):
                self.assertIs(one == other, at == to)
                self.assertIs(one != other, at != to)
            self.assertEqual(one, Saying.read(str(one)))
            for value in ODD + [str(one)]:
                self.assertFalse(one == value)

    def test_wrong_places(self):
        for value in ODD + [(0,), (0, 0, 0), (-1, 0), (0, -1), (True, 0), [0, False], (0.0, 1), "00", ((0, 0), 0),
                            {0: 0, 1: 1}]:
            self.assertEqual(error_of(Same, value, value), ("BadSaying", ("place",)))
            self.assertEqual(error_of(Same, (0, 0), value), ("BadSaying", ("other",)))
        self.assertEqual(error_of(Same, [2, 3], [2, 3]), ("Twice", ((2, 3),)))
        self.assertEqual(error_of(Same, (2, 3), [2, 3]), ("Twice", ((2, 3),)))
        self.assertIsNone(error_of(Same, (10 ** 70, 0), (0, 10 ** 70)))

    def test_wrong_rows_and_sizes(self):
        for value in [-1, True, False, None, 1.0, "1", [1], (0, 1)]:
            self.assertEqual(error_of(AlikeRows, value, value), ("BadSaying", ("row",)))
            self.assertEqual(error_of(AlikeRows, 1, value), ("BadSaying", ("other",)))
            self.assertEqual(error_of(Sizes, value), ("BadSaying", ("size",)))
        self.assertEqual(error_of(AlikeRows, 5, 5), ("Twice", (5,)))
        for value in (0, 13, 10 ** 70):
            self.assertEqual(error_of(Sizes, value), ("BadSaying", ("size",)))

    def test_wrong_parts(self):
        for value in ODD + ["size 3", Sizes, Saying]:
            self.assertEqual(error_of(Not, value), ("BadSaying", ("saying",)))
            self.assertEqual(error_of(Both, value, value), ("BadSaying", ("one",)))
            self.assertEqual(error_of(Both, Sizes(1), value), ("BadSaying", ("other",)))
            self.assertEqual(error_of(lambda: Sizes(1) & value), ("BadSaying", ("other",)))

    def test_sixteen_and_seventeen(self):
        self.assertEqual((deep_not(16).many, wide_both(15).many), (16, 15))
        self.assertEqual((~wide_both(15)).many, 16)
        too_many = ("TooMany", ("sayings", 16))
        self.assertEqual(error_of(Not, deep_not(16)), too_many)
        self.assertEqual(error_of(lambda: ~deep_not(16)), too_many)
        self.assertEqual(error_of(Both, wide_both(15), Sizes(1)), too_many)
        self.assertEqual(error_of(lambda: wide_both(13) & Not(Sizes(1))), None)
        self.assertEqual(error_of(lambda: wide_both(13) & Not(Not(Sizes(1)))), too_many)
        self.assertEqual(error_of(Both, deep_not(16), None), ("BadSaying", ("other",)))


def saying_of_items(items):
    """The pair of the saying that stands ahead among some items, made without reading, and the items behind."""
    word, rest = items[0], items[1:]
    if word == "not":
        one, rest = saying_of_items(rest)
        return Not(one), rest
    if word == "both":
        one, rest = saying_of_items(rest)
        other, rest = saying_of_items(rest)
        return Both(one, other), rest
    many = {"same": 4, "rows": 2, "size": 1}[word]
    numbers = [int(item) for item in rest[:many]]
    if len(numbers) < many or any(str(number) != item or len(item) > 60 for number, item in zip(numbers, rest)):
        raise KeyError
    if word == "same":
        return Same(numbers[:2], numbers[2:]), rest[many:]
    return {"rows": AlikeRows, "size": Sizes}[word](*numbers), rest[many:]


def is_text(items):
    try:
        return saying_of_items(items)[1] == []
    except (KeyError, IndexError, ValueError):
        return False


def can_begin(items):
    """Whether some items can begin the text of a saying, found by putting items behind them."""
    numbers = [["91", "92", "93", "94"][4 - many:] for many in range(5)] + [["12"]]
    return any(is_text(items + told + ["size", "1"] * more) for told in numbers for more in range(9))


class Reading(unittest.TestCase):
    def test_texts(self):
        for chance in chances(2100, 60):
            saying = some_saying(chance, SHEET)
            self.assertEqual(Saying.read(str(saying)), saying)
        self.assertEqual(str(Not(Both(Same((0, 10), (3, 2)), AlikeRows(2, 0)))), "not both same 0 10 3 2 rows 2 0")

    def test_bent_texts(self):
        others = ["", "0", "1", "2", "12", "13", "01", "-1", "+1", "same", "rows", "size", "not", "both", "x", "1.0", "9" * 60,
                  "9" * 61, "\u0661", "\u00b2"]
        for text in ["same 0 1 2 3", "rows 0 2", "size 3", "not size 12", "both same 0 0 1 0 not rows 0 2",
                     "not both not size 1 both rows 2 1 same 0 1 0 2"]:
            for items in bent_items(text.split(" "), others):
                told = " ".join(items).split(" ")
                index = wanted_index(told, can_begin, is_text)
                wanted = None if index is None else ("BadText", (0, index))
                self.assertEqual(error_of(Saying.read, " ".join(items)), wanted, told)

    def test_told_faults(self):
        for text, item in [("", 0), ("same", 1), ("same 0", 2), ("same 0 1 0", 4), ("same 0 1 0 1", 4), ("rows 3 3", 2),
                           ("rows 3", 2), ("size 0", 1), ("size 13", 1), ("size 3 ", 2), ("size 3 size 3", 2), ("not", 1),
                           ("both size 2", 3), ("both size 2 same 0 1 0 1", 7), ("Size 3", 0), (" size 3", 0), ("size  3", 1),
                           ("size 3\n", 1), ("not not", 2), ("both size 1 size 1 size 1", 5), ("same 0 1 0 01", 4)]:
            self.assertEqual(error_of(Saying.read, text), ("BadText", (0, item)), text)
        for value in ODD + [Sizes(3)]:
            if not isinstance(value, str):
                self.assertEqual(error_of(Saying.read, value), ("BadText", (0, 0)))

    def test_seventeen(self):
        self.assertEqual(Saying.read(str(deep_not(16))), deep_not(16))
        self.assertEqual(error_of(Saying.read, "not " * 16 + "size 1"), ("BadText", (0, 16)))
        self.assertEqual(error_of(Saying.read, "not " * 16 + "x"), ("BadText", (0, 16)))
        self.assertEqual(error_of(Saying.read, "not " * 15 + "both"), ("BadText", (0, 16)))
        self.assertEqual(error_of(Saying.read, "not " * 15 + "both size 1 size 1"), ("BadText", (0, 16)))
        self.assertEqual(error_of(Saying.read, "not " * 14 + "both size 1 size 1"), ("BadText", (0, 17)))
        self.assertEqual(error_of(Saying.read, "both " * 9), ("BadText", (0, 9)))
        self.assertEqual(error_of(Saying.read, ("both " * 16)[:-1]), ("BadText", (0, 16)))
        fifteen = str(wide_both(15))
        self.assertEqual(Saying.read("not " + fifteen).many, 16)
        self.assertEqual(error_of(Saying.read, "both " + fifteen + " size 1"), ("BadText", (0, 1 + len(fifteen.split(" ")))))
        text = "both " * 8 + "size 1 " * 8
        self.assertEqual(error_of(Saying.read, text + "size 1"), ("BadText", (0, 24)))
        self.assertEqual(error_of(Saying.read, text + "x"), ("BadText", (0, 24)))
        self.assertEqual(error_of(Saying.read, text[:-1]), ("BadText", (0, 24)))
        self.assertEqual(error_of(Saying.read, text[:-3]), ("BadText", (0, 23)))
        self.assertEqual(error_of(Saying.read, text[:-3] + " 13 size 1"), ("BadText", (0, 23)))


class Holding(unittest.TestCase):
    def test_any_dyeing(self):
        truths = []
        for chance in chances(2200, 40):
            sheet = some_whole_sheet(chance, 5)
            for _ in range(6):
                saying = some_saying(chance, sheet)
                for dyeing in all_dyeings(len(sheet.places)):
                    wanted = plain_holds(saying, sheet, dyeing)
                    truths.append(wanted)
                    self.assertIs(holds(saying, sheet, list(dyeing)), wanted)
        self.assertLess(len(truths) // 10, truths.count(True))
        self.assertLess(len(truths) // 10, truths.count(False))

    def test_twelve_places(self):
        sheet = Sheet(["x"], [["a" * 6], ["a" * 6]])
        self.assertIs(holds(AlikeRows(1, 0), sheet, [0, 1, 2, 3, 4, 5] * 2), True)
        self.assertIs(holds(AlikeRows(1, 0), sheet, [0, 1, 2, 3, 4, 5] + [0] * 6), False)
        self.assertIs(holds(AlikeRows(0, 2), SHEET, [0] * 5), False)
        self.assertIs(holds(Sizes(12), sheet, range_of(12)), True)
        self.assertIs(holds(Sizes(12), sheet, range_of(11) + [0]), False)

    def test_errors(self):
        right, dyeing = Sizes(1), (0, 1, 0, 2, 1)
        for value in ODD:
            self.assertEqual(error_of(holds, value, value, value), ("BadSaying", ("saying",)))
            self.assertEqual(error_of(holds, right, value, value), ("BadSheet", ("sheet",)))
            self.assertEqual(error_of(holds, right, GAPS, value), ("BadSheet", ("gaps",)))
            if value not in ([], ()):
                self.assertEqual(error_of(holds, Same((9, 9), (0, 0)), SHEET, value), ("BadDyeing", ("dyeing",)))
        self.assertEqual(error_of(holds, right, SHEET, (0,)), ("Misfit", ("places",)))
        for saying, error in [(Same((2, 1), (3, 0)), ("NoPlace", ((2, 1),))), (Same((0, 0), (3, 0)), ("NoPlace", ((3, 0),))),
                              (Same((3, 0), (0, 0)), ("NoPlace", ((3, 0),))),
                              (AlikeRows(4, 3), ("NoRow", (4,))), (AlikeRows(0, 3), ("NoRow", (3,))),
                              (Both(Not(AlikeRows(0, 7)), Same((5, 0), (6, 0))), ("NoRow", (7,))),
                              (Both(Not(Same((0, 0), (0, 2))), AlikeRows(5, 6)), ("NoPlace", ((0, 2),))),
                              (Both(Both(right, AlikeRows(0, 1)), ~Same((1, 0), (2, 1))), ("NoPlace", ((2, 1),)))]:
            self.assertEqual(error_of(holds, saying, SHEET, (0,)), error)
            self.assertEqual(error_of(holds, saying, SHEET, dyeing), error)

    def test_told_of(self):
        for chance in chances(2300, 40):
            sheet = some_whole_sheet(chance, 6)
            saying = some_saying(chance, sheet)
            left = [row for row in range(len(sheet.rows)) if row in saying.rows or chance.random() < 0.5]
            rows = chance.sample(left, len(left))
            told = told_of(saying, rows)
            self.assertEqual(told.rows, tuple(sorted(rows.index(row) for row in saying.rows)))
            if rows:
                for dyeing in all_dyeings(len(sheet.of_rows(rows).places)):
                    part = sheet.of_rows(rows)
                    self.assertIs(holds(told, part, dyeing), told_truth(saying, sheet, rows, dyeing))
        self.assertEqual(told_of(Sizes(3), []), Sizes(3))
        self.assertEqual(str(told_of(AlikeRows(9, 4), (4, 7, 9))), "rows 2 0")

    def test_wrong_rows_told(self):
        saying = Both(AlikeRows(5, 2), Same((3, 0), (1, 1)))
        for value in ODD + [[0, -1], [0, True], "12", [0.0], {1: 1}]:
            self.assertEqual(error_of(told_of, value, value), ("BadSaying", ("saying",)))
            if value not in ([], ()):
                self.assertEqual(error_of(told_of, saying, value), ("BadNumber", ("rows",)))
        self.assertEqual(error_of(told_of, saying, [7, 8, 8, 7]), ("Twice", (8,)))
        self.assertEqual(error_of(told_of, saying, []), ("NoRow", (1,)))
        self.assertEqual(error_of(told_of, saying, (1, 5, 3)), ("NoRow", (2,)))
        self.assertEqual(error_of(told_of, saying, [1, 2, 3]), ("NoRow", (5,)))


def range_of(many):
    return list(range(many))


def told_truth(saying, sheet, rows, dyeing):
    """Whether a saying holds on some rows: the other rows have sounds of their own, which Sizes does not count."""
    if isinstance(saying, Sizes):
        return len(set(dyeing)) >= saying.size
    if isinstance(saying, Not):
        return not told_truth(saying.saying, sheet, rows, dyeing)
    if isinstance(saying, Both):
        return all([told_truth(one, sheet, rows, dyeing) for one in (saying.one, saying.other)])
    sounds, at = {}, 0
    for row in rows:
        for place in sheet.places_of(row):
            sounds[place] = dyeing[at]
            at += 1
    whole = [sounds.get(place, -place - 1) for place in range(len(sheet.places))]
    return plain_holds(saying, sheet, whole)

