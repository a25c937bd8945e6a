import unittest
from itertools import combinations

from foretongue.families import Family, from_sheet, sharings_of
from foretongue.sheets import Sheet
from tests.helper import ODD, bent_items, chances, error_of
from tests.plain_mothers import beside, check_errors, column, plain_mothers, some_whole_sheet
from tests.test_dyeings import NONE

FAMILY = Family(["c", "a", "b", "d"], [["b", "a"], ["b", "c"], ["c", "a", "b"]])
SHEET = Sheet(["x", "y", "z"], [["ka", "ka", "ka"], ["ta", "ka", "ka"]])
FIVE = list("abcde")
SETS = [lot for many in range(2, 6) for lot in combinations(FIVE, many)]


def some_family(chance):
    languages = chance.sample(FIVE, chance.randrange(1, 6))
    sets = [lot for lot in SETS if set(lot) <= set(languages)]
    sharings = chance.sample(sets, min(len(sets), chance.randrange(9)))
    return Family(languages, [chance.sample(lot, len(lot)) for lot in sharings])


class Making(unittest.TestCase):
    def test_attributes(self):
        self.assertEqual(FAMILY.languages, ("a", "b", "c", "d"))
        self.assertEqual(FAMILY.sharings, (("a", "b"), ("b", "c"), ("a", "b", "c")))
        self.assertEqual((len(FAMILY), len(Family(["a"], []))), (3, 0))
        self.assertEqual(Family(["b1", "b"], [("b1", "b")]).sharings, (("b", "b1"),))

    def test_what_is_passed_is_copied(self):
        languages, sharings = ["b", "a"], [["b", "a"]]
        family = Family(languages, sharings)
        languages.append("c")
        sharings[0][0] = "x"
        sharings.append(["a", "b"])
        self.assertEqual(str(family), "a b : a b")

    def test_equality(self):
        self.assertEqual(FAMILY, Family(("a", "b", "c", "d"), [("a", "b"), ["c", "b"], ["a", "b", "c"]]))
        for other in [Family(FIVE, FAMILY.sharings), Family(["a", "b", "c", "d"], FAMILY.sharings[::-1]),
                      Family(["a", "b", "c", "d"], []), str(FAMILY), None]:
            self.assertFalse(FAMILY == other)

    def test_wrong_languages(self):
        for value in ODD + ["ab", ["a", "A"], [["a"]], ["a", None], ["1"], ["a" * 13], {"a": 1}]:
            if value not in (["a"], ("a", "b")):
                self.assertEqual(error_of(Family, value, value), ("BadFamily", ("languages",)), value)
        self.assertEqual(error_of(Family, ["a", "b", "b", "a"], None), ("Twice", ("b",)))
        self.assertEqual(error_of(Family, FIVE + ["a"], None), ("Twice", ("a",)))
        self.assertEqual(error_of(Family, FIVE + ["f"], None), ("TooMany", ("languages", 5)))

    def test_wrong_sharings(self):
        for value in ODD + ["ab", ["ab"], [["a"]], [["a", "a"]], [["a", "x"]], [["a", "b"], None], [["a", None]],
                            [["a", "b", "a"]],
                            [["a", ["b"]]], [[]], [{"a": 1, "b": 2}], [["a", "B"]]]:
            if value not in ([], ()):
                self.assertEqual(error_of(Family, ["a", "b", "c"], value), ("BadFamily", ("sharings",)), value)
        self.assertEqual(error_of(Family, FIVE, [["a", "b"], ["c", "d"], ["d", "c"], ["b", "a"]]), ("Twice", (("c", "d"),)))
        self.assertEqual(error_of(Family, FIVE, SETS[:8] + [["b", "a"]]), ("Twice", (("a", "b"),)))
        self.assertEqual(error_of(Family, FIVE, SETS[:9]), ("TooMany", ("sharings", 8)))
        self.assertIsNone(error_of(Family, FIVE, SETS[-8:]))

    def test_without(self):
        for chance in chances(4000, 30):
            family = some_family(chance)
            numbers = chance.sample(range(len(family)), chance.randrange(len(family) + 1))
            left = [sharing for at, sharing in enumerate(family.sharings) if at not in numbers]
            self.assertEqual(family.without(numbers), Family(family.languages, left))
        self.assertEqual(FAMILY.without(()), FAMILY)

    def test_with_language(self):
        for chance in chances(4010, 30):
            family = some_family(chance)
            if len(family.languages) < 5:
                numbers = chance.sample(range(len(family)), chance.randrange(len(family) + 1))
                sharings = [sharing + ("b2",) if at in numbers else sharing for at, sharing in enumerate(family.sharings)]
                told = family.with_language("b2", tuple(numbers))
                self.assertEqual(told, Family(family.languages + ("b2",), sharings))
                self.assertEqual(told.sharings, tuple(tuple(sorted(sharing)) for sharing in sharings))

    def test_wrong_numbers(self):
        for value in ODD + [[3], [0, -1], [True], [0, None], "0", 0, [0.0], {0: 0}, [0, 0, 3]]:
            if value not in ([], ()):
                self.assertEqual(error_of(FAMILY.without, value), ("BadNumber", ("numbers",)), value)
                self.assertEqual(error_of(FAMILY.with_language, "a", value), ("BadNumber", ("numbers",)), value)
        for call, more in ((FAMILY.without, ()), (FAMILY.with_language, ("a",))):
            self.assertEqual(error_of(call, *more, [0, 2, 1, 2, 0]), ("Twice", (2,)))
        for value in ODD + ["A", "a-", "1"]:
            if value not in ("a1",):
                self.assertEqual(error_of(FAMILY.with_language, value, value), ("BadFamily", ("language",)))
        five = Family(FIVE, [["a", "b"]])
        self.assertEqual(error_of(five.with_language, "e", [0]), ("Twice", ("e",)))
        self.assertEqual(error_of(five.with_language, "f", [0]), ("TooMany", ("languages", 5)))
        self.assertEqual(error_of(five.with_language, "f", [0, 0]), ("Twice", (0,)))


def wanted_item(items):
    """The index that BadText tells, by the rows of the interface; None for a text."""
    at = 0
    while True:
        if at == len(items):
            return at
        if items[at] == ":" and at > 0:
            break
        ahead = items[:at]
        is_name = items[at].isascii() and items[at].isalnum() and items[at].islower() and items[at][0].isalpha()
        if not is_name or len(items[at]) > 12 or ahead and items[at] <= ahead[-1] or at == 5:
            return at
        at += 1
    languages, at, sharings, now = items[:at], at + 1, [], []
    if items[at:] == ["-"]:
        return None
    if items[at:at + 1] == ["-"]:
        return at + 1
    while at < len(items):
        is_complete = len(now) > 1 and now not in sharings
        if items[at] == "/" and is_complete and len(sharings) < 7:
            sharings.append(now)
            now = []
        elif items[at] in languages and (not now or items[at] > now[-1]):
            now = now + [items[at]]
        else:
            return at
        at += 1
    return None if len(now) > 1 and now not in sharings else len(items)


class Reading(unittest.TestCase):
    def test_texts(self):
        for chance in chances(4100, 60):
            family = some_family(chance)
            self.assertEqual(Family.read(str(family)), family)
            self.assertIsNone(wanted_item(str(family).split(" ")))
        self.assertEqual(str(Family(["b", "a"], [])), "a b : -")

    def test_bent_texts(self):
        others = ["", "a", "b", "c", "d", "e", "f", ":", "/", "-", "A", "a1", "1", "ab", "b" * 12, "b" * 13]
        for text in ["a b c d : a b / b c / a b c", "a : -", "a b c d e : -", "a b : a b", "a b1 c : a c / a b1 / a b1 c / b1 c",
                     "a b c d : " + " / ".join([" ".join(lot) for lot in SETS if "e" not in lot][:8])]:
            for items in bent_items(text.split(" "), others):
                told = " ".join(items).split(" ")
                index = wanted_item(told)
                wanted = None if index is None else ("BadText", (0, index))
                self.assertEqual(error_of(Family.read, " ".join(items)), wanted, told)

    def test_told_faults(self):
        eight = "a b c d e : " + " / ".join([" ".join(lot) for lot in SETS[:8]])
        for text, item in [("", 0), (":", 0), ("a", 1), ("a :", 2), ("b a : -", 1), ("a a : -", 1), ("a b c d e f : -", 5),
                           ("a b : a", 4), ("a b : b", 4), ("a b : a /", 4), ("a b : a b /", 6), ("a b : b a", 4),
                           ("a b : a a", 4), ("a b : a c", 4), ("a b c : a b / a b", 9), ("a b c : a b / a b / c", 9),
                           ("a b c : a b / a b c / a b c", 14), ("a b : - -", 4), ("a b : a b -", 5), ("a b : / a b", 3),
                           ("a b : a b ", 5), ("a b : a b\n", 4), ("a : a", 3), (eight + " / d e", len(eight.split(" ")))]:
            self.assertEqual(error_of(Family.read, text), ("BadText", (0, item)), text)
        self.assertEqual(len(Family.read(eight)), 8)
        for value in ODD + [FAMILY]:
            if not isinstance(value, str):
                self.assertEqual(error_of(Family.read, value), ("BadText", (0, 0)))

    def test_two_texts(self):
        self.assertEqual(error_of(Family.read, "a b : a b a b : a b"), ("BadText", (0, 5)))
        self.assertEqual(error_of(Family.read, "a b : - a b : -"), ("BadText", (0, 4)))


def plain_sharings(sheet, width, dyeing):
    """The sharings of a mother, place by place, each with the least pair of places."""
    found = {}
    for place, other in combinations(range(len(dyeing)), 2):
        around = [[None if beside(sheet, at, way) is None else dyeing[beside(sheet, at, way)] for way in (-1, 1)]
                  for at in (place, other)]
        if dyeing[place] != dyeing[other] and (width == 0 or around[0] == around[1]):
            signs = zip(sheet.languages, column(sheet, place), column(sheet, other))
            shared = tuple(sorted(language for language, sign, its in signs if sign == its))
            if len(shared) > 1:
                found.setdefault(shared, (shared, place, other))
    return tuple(sorted(found.values()))


class OfSheets(unittest.TestCase):
    def test_place_by_place(self):
        several = {0: 0, 1: 0}
        for chance in chances(4200, 100):
            sheet = some_whole_sheet(chance, 6, letters="as-", languages=4)
            for width in (0, 1):
                for dyeing in plain_mothers(sheet, width):
                    wanted = plain_sharings(sheet, width, dyeing)
                    several[width] += len(wanted) > 1
                    self.assertEqual(sharings_of(sheet, width, list(dyeing)), wanted)
                    if len(wanted) <= 8:
                        family = Family(sheet.languages, [row[0] for row in wanted])
                        self.assertEqual(from_sheet(sheet, width, dyeing), family)
        self.assertGreater(min(several.values()), 2)

    def test_too_many_sharings(self):
        dyeing = tuple(range(12))
        found = 0
        for chance in chances(4210, 200):
            told = Sheet(list("pqrs"), [["".join(chance.choices("ab", k=12)) for _ in range(4)]])
            sharings = plain_sharings(told, 0, dyeing)
            found += len(sharings) > 8
            wanted = ("TooMany", ("sharings", 8)) if len(sharings) > 8 else None
            self.assertEqual(error_of(from_sheet, told, 0, dyeing), wanted)
            self.assertEqual(sharings_of(told, 0, dyeing), sharings)
        self.assertGreater(found, 0)

    def test_wrong(self):
        for call in (sharings_of, from_sheet):
            check_errors(self, call, False, 1)
            for value in ODD + NONE:
                if value not in ([], ()):
                    self.assertEqual(error_of(call, SHEET, 1, value), ("BadDyeing", ("dyeing",)))
            self.assertEqual(error_of(call, SHEET, 1, (0, 1)), ("Misfit", ("places",)))
            self.assertEqual(error_of(call, SHEET, 1, (0, 1, 0, 1)), ("Misfit", ("dyeing",)))
            self.assertEqual(error_of(call, SHEET, 0, (0, 0, 1, 0)), ("Misfit", ("dyeing",)))
