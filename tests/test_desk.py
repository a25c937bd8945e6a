import unittest

from foretongue.desk import Desk
from foretongue.errors import BadLine, BadNumber, BadText, NoName, Nothing, TongueError
from foretongue.shelves import Shelf
from tests.helper import ODD, chances, error_of
from tests.plain_desk import LINES, PlainDesk, is_ask, shelf_of
from tests.test_desk_lines import LINES as RIGHT_LINES

PUT = "put a sheet one two : sa sa / si zi"
OTHER = "put b course u > i / * _ *"


def told_to(desk, call, lines):
    """The answers, or the index of the refused line and its error."""
    try:
        answers = call(*lines)
    except BadLine as error:
        return error.line, type(error.error).__name__, tuple(vars(error.error).values())
    return list(answers)


class Desks(unittest.TestCase):
    def check(self, desk, plain):
        shelf = shelf_of(plain.story)
        self.assertEqual((desk.story, desk.shelf), (plain.story, shelf))
        self.assertEqual((type(desk.story), type(desk.shelf)), (tuple, Shelf))
        self.assertEqual(len(desk), len(shelf.things))
        self.assertEqual([name in desk for name in "abcd"], [name in shelf.names for name in "abcd"])

    def test_any_lines(self):
        refused, ways = 0, set()
        for chance in chances(9400, 60):
            desk, plain = Desk(), PlainDesk()
            for _ in range(25):
                way = chance.randrange(8)
                lines = chance.choices(LINES, k=chance.randrange(4))
                ways.add(way)
                if way in (0, 1):
                    told = told_to(desk, desk.told, lines)
                    refused += bool(told) and isinstance(told, tuple)
                    self.assertEqual(told, plain.told(lines))
                elif way == 2:
                    self.assertEqual(told_to(desk, desk.tried, lines), PlainDesk(plain.story, plain.undone).told(lines))
                elif way in (3, 4, 5):
                    self.check_one(desk, plain, chance.choice(LINES[:26]))
                elif way == 6:
                    wanted = plain.undo()
                    self.assertEqual(desk.undo() if wanted else error_of(desk.undo), wanted or ("Nothing", ()))
                else:
                    wanted = plain.redo()
                    self.assertEqual(desk.redo() if wanted else error_of(desk.redo), wanted or ("Nothing", ()))
                self.check(desk, plain)
        self.assertGreater(refused, 50)
        self.assertEqual(len(ways), 8)

    def check_one(self, desk, plain, line):
        wanted = plain.told([line])
        if isinstance(wanted, tuple):
            self.assertEqual(error_of(desk, line), wanted[1:])
        else:
            self.assertEqual([desk(line)], wanted)

    def test_a_new_desk(self):
        desk = Desk()
        self.assertEqual((desk.shelf, desk.story, len(desk)), (Shelf(), (), 0))
        self.assertEqual((desk.told(), desk.tried(), desk("names"), desk("width"), desk("most")), ((), (), "-", "1", "8"))
        self.assertEqual(desk, Desk())

    def test_asks_change_nothing(self):
        desk = Desk()
        desk.told(PUT, "put c course k > c / * _ i", "fill a 0 two .", "put w sheet x y : sa sa / si zi", "width 0")
        desk.undo()
        before = (desk.shelf, desk.story)
        for line in RIGHT_LINES:
            if is_ask(line):
                error_of(desk, line)
        desk.told("names", "show a", "size w", "mother w", "same w 0 2", "alike w 0 1", "strangers w", "stand a 0 two",
                  "done c ki", "parts c c ik", "fallen c ik", "width", "most")
        self.assertEqual((desk.shelf, desk.story), before)
        self.assertEqual(desk.redo(), "width 0")

    def test_told_lines_at_once(self):
        desk = Desk()
        with self.assertRaises(BadLine) as caught:
            desk.told(PUT, OTHER, "size a", "row x sa", "width 0")
        self.assertEqual((caught.exception.line, vars(caught.exception.error)), (3, {"value": "x"}))
        self.assertIs(type(caught.exception.error), NoName)
        self.assertEqual((desk.shelf, desk.story, error_of(desk.redo)), (Shelf(), (), ("Nothing", ())))
        with self.assertRaises(BadLine) as caught:
            desk.told(PUT, None)
        self.assertEqual((caught.exception.line, vars(caught.exception.error)), (1, {"line": 0, "item": 0}))
        self.assertIs(type(caught.exception.error), BadText)
        self.assertEqual(desk.story, ())
        self.assertEqual(desk.told(PUT, OTHER, "size a"), ("1", "2", "3"))

    def test_a_refused_line_alone(self):
        desk = Desk()
        desk(PUT)
        for line, name in [("width 9", BadNumber), ("drop x", NoName), ("x", BadText), (3, BadText)]:
            with self.assertRaises(TongueError) as caught:
                desk(line)
            self.assertIs(type(caught.exception), name)
        self.assertEqual(desk.story, (PUT,))

    def test_a_refused_line_and_a_try_forget_nothing(self):
        desk = Desk()
        desk.told(PUT, OTHER, "most 3")
        self.assertEqual((desk.undo(), desk.undo()), ("most 3", OTHER))
        self.assertEqual(desk.tried("most 5", "width 0", "names"), ("5", "0", "a"))
        self.assertEqual(error_of(desk, "most 9"), ("BadNumber", ("most",)))
        self.assertEqual(error_of(desk.told, "most 5", "most 9")[0], "BadLine")
        self.assertEqual(error_of(desk.tried, "most 5", "most 9")[0], "BadLine")
        self.assertEqual(desk.told("names", "width"), ("a", "1"))
        self.assertEqual(desk.told(), ())
        self.assertEqual((desk.redo(), desk.redo(), error_of(desk.redo)), (OTHER, "most 3", ("Nothing", ())))
        self.assertEqual(desk.story, (PUT, OTHER, "most 3"))

    def test_a_deed_forgets_what_was_taken_back(self):
        for line in ("most 5", "width 1", "row a si si"):
            desk = Desk()
            desk.told(PUT, OTHER)
            desk.undo()
            desk(line)
            self.assertEqual(error_of(desk.redo), ("Nothing", ()))
            self.assertEqual(desk.story, (PUT, line))
            desk.undo()
            self.assertEqual(desk.redo(), line)

    def test_taken_back_to_the_begin(self):
        desk = Desk()
        lines = [PUT, OTHER, "width 0", "row a si si", "strike a 0", "drop a"]
        desk.told(*lines)
        shelves = [shelf_of(lines[:many]) for many in range(len(lines) + 1)]
        for many in range(len(lines), 0, -1):
            self.assertEqual(desk.undo(), lines[many - 1])
            self.assertEqual((desk.shelf, desk.story), (shelves[many - 1], tuple(lines[:many - 1])))
        self.assertEqual(error_of(desk.undo), ("Nothing", ()))
        for many, line in enumerate(lines):
            self.assertEqual(desk.redo(), line)
            self.assertEqual((desk.shelf, desk.story), (shelves[many + 1], tuple(lines[:many + 1])))
        self.assertEqual(error_of(desk.redo), ("Nothing", ()))
        with self.assertRaises(Nothing):
            desk.redo()

    def test_twins(self):
        desk = Desk()
        desk.told(PUT, OTHER, "most 3")
        desk.undo()
        twin = desk.twin()
        self.assertIs(type(twin), Desk)
        self.assertEqual((twin, twin.story, twin.shelf), (desk, desk.story, desk.shelf))
        self.assertEqual(twin.redo(), "most 3")
        self.assertEqual((desk("most"), twin("most")), ("8", "3"))
        self.assertEqual(desk.redo(), "most 3")
        twin.told("drop a", "drop b")
        self.assertEqual((len(desk), len(twin)), (2, 0))
        desk.undo()
        desk.undo()
        self.assertEqual((twin.undo(), twin.undo(), twin.undo()), ("drop b", "drop a", "most 3"))
        self.assertEqual((desk.story, twin.story), ((PUT,), (PUT, OTHER)))

    def test_names_in_a_desk(self):
        desk = Desk()
        desk.told(PUT, OTHER)
        self.assertEqual([value in desk for value in ["a", "b", "c", "", "ab", ("a",), ["a"], 0, None, {}, PUT]],
                         [True, True] + [False] * 9)
        for value in ODD:
            self.assertIs(value in desk, False)

    def test_equality(self):
        one, other = Desk(), Desk()
        one.told(PUT, "width 0", "width 1")
        other.told(OTHER, "drop b", PUT)
        self.assertTrue(one == other)
        self.assertFalse(one != other)
        other("width 0")
        self.assertFalse(one == other)
        for value in [one.shelf, None, 0, "desk", one.story]:
            self.assertFalse(one == value)
            self.assertTrue(one != value)
        self.assertTrue(Desk() == Desk())
        self.assertFalse(Desk() == Shelf())

    def test_what_was_taken_back_leaves_answers_as_if_never_told(self):
        desk, never = Desk(), Desk()
        desk.told(PUT, "row a si si", "most 3")
        never.told(PUT)
        desk.undo()
        desk.undo()
        asks = ("names", "show a", "size a", "mother a", "same a 0 2", "strangers a", "width", "most")
        self.assertEqual(desk.told(*asks), never.told(*asks))
