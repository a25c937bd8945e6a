import unittest

from foretongue.courses import Course
from foretongue.shelves import Shelf
from foretongue.sheets import Sheet
from foretongue.shifts import Shift
from tests.helper import ODD, error_of

SHEET = Sheet(["one"], [["sa"]])
COURSE = Course([Shift("a", "b")])


class Shelves(unittest.TestCase):
    def test_attributes(self):
        shelf = Shelf([["b", SHEET], ("a1", COURSE)], 0, 3)
        self.assertEqual((shelf.names, shelf.width, shelf.most), (("b", "a1"), 0, 3))
        self.assertEqual(shelf.things, (("b", SHEET), ("a1", COURSE)))
        self.assertEqual([type(pair) for pair in (shelf.things, *shelf.things)], [tuple] * 3)
        self.assertIs(shelf.thing("a1"), COURSE)
        self.assertIs(shelf.thing("b"), SHEET)

    def test_defaults_and_names_of_parameters(self):
        self.assertEqual((Shelf().things, Shelf().names, Shelf().width, Shelf().most), ((), (), 1, 8))
        self.assertEqual(Shelf(most=2, things=[("a", SHEET)], width=0), Shelf((("a", SHEET),), 0, 2))

    def test_what_is_passed_is_copied(self):
        things = [["a", SHEET]]
        shelf = Shelf(things)
        things[0][0] = "b"
        things.append(["c", SHEET])
        self.assertEqual(shelf.names, ("a",))
        self.assertEqual(shelf.things, (("a", SHEET),))

    def test_equality(self):
        shelf = Shelf([("a", SHEET), ("b", COURSE)])
        self.assertEqual(shelf, Shelf([("a", Sheet(["one"], [["sa"]])), ("b", Course([Shift("a", "b")]))]))
        for other in [Shelf([("b", COURSE), ("a", SHEET)]), Shelf(shelf.things, 0), Shelf(shelf.things, 1, 7), Shelf(),
                      Shelf([("a", SHEET), ("c", COURSE)]), Shelf([("a", SHEET), ("b", Course([]))]), shelf.things, None]:
            self.assertFalse(shelf == other)
            self.assertTrue(shelf != other)

    def test_names_that_lack(self):
        shelf = Shelf([("a", SHEET)])
        for value in ODD + ["aa", "b", SHEET, ["a"]]:
            self.assertEqual(error_of(shelf.thing, value), ("NoName", (value,)))
            self.assertEqual(error_of(Shelf().thing, value), ("NoName", (value,)))

    def test_wrong(self):
        wrong = [[("a", None)], [("a",)], [("a", SHEET, 1)], [("A", SHEET)], [(1, SHEET)], ["a"], [["a", "one : sa"]],
                 [SHEET], SHEET, {"a": SHEET}, [("a", SHEET), None], [("a", Sheet)], [(None, SHEET)], "ab"]
        for value in ODD + wrong:
            if value not in ([], ()):
                self.assertEqual(error_of(Shelf, value, value, value), ("BadDesk", ("things",)), value)
        twice = [("a", SHEET), ("b", SHEET), ("b", COURSE), ("a", SHEET)]
        self.assertEqual(error_of(Shelf, twice, None, None), ("Twice", ("b",)))
        for value in [2, -1, True, False, None, 1.0, "1", 10 ** 30]:
            self.assertEqual(error_of(Shelf, [], value, value), ("BadNumber", ("width",)))
        for value in [0, 9, -1, True, None, 1.0, "1", 10 ** 30]:
            self.assertEqual(error_of(Shelf, [], 0, value), ("BadNumber", ("most",)))
