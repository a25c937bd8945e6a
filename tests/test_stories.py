import unittest

from foretongue.desk import Desk
from foretongue.errors import BadLine
from foretongue.stories import parting, replay
from tests.helper import ODD, chances, error_of
from tests.plain_desk import LINES, is_ask, shelf_of
from tests.test_desk import OTHER, PUT, told_to


def refused(lines):
    """The index, the name and the fields of the error of a story that is refused."""
    try:
        replay(lines)
    except BadLine as error:
        return error.line, type(error.error).__name__, tuple(vars(error.error).values())
    return None


class Replayed(unittest.TestCase):
    def test_any_story(self):
        for chance in chances(9500, 60):
            desk = Desk()
            for _ in range(10):
                told_to(desk, desk.told, [chance.choice(LINES)])
            played = replay(list(desk.story))
            self.assertIs(type(played), Desk)
            self.assertEqual((played, played.story, played.shelf), (desk, desk.story, shelf_of(desk.story)))
            self.assertEqual(error_of(played.redo), ("Nothing", ()))
            self.assertEqual(parting(desk, played), len(desk.story))
            for line in desk.story[::-1]:
                self.assertEqual(played.undo(), line)
            self.assertEqual(played, Desk())

    def test_what_is_refused(self):
        for line in LINES:
            if isinstance(line, str) and is_ask(line):
                self.assertEqual(refused([PUT, OTHER, line, "foo"]), (2, "BadText", (0, 0)), line)
        for line, wanted in [("width", ("BadText", (0, 0))), ("most", ("BadText", (0, 0))), ("size", ("BadText", (0, 0))),
                             ("", ("BadText", (0, 0))), ("foo", ("BadText", (0, 0))), ("width ", ("BadText", (0, 1))),
                             ("width x", ("BadText", (0, 1))), ("names x", ("BadText", (0, 0))), ("drop", ("BadText", (0, 1))),
                             ("drop x", ("NoName", ("x",))), (PUT, ("Twice", ("a",))), ("row b sa", ("Misfit", ("kinds",))),
                             ("width 2", ("BadNumber", ("width",))), ("strike a 5", ("NoRow", (5,)))]:
            self.assertEqual(refused((PUT, OTHER, line)), (2, *wanted), line)

    def test_no_lines(self):
        for lines in ([], ()):
            self.assertEqual((replay(lines), replay(lines).story), (Desk(), ()))

    def test_wrong(self):
        for value in ODD + [PUT, [PUT, None], [[PUT]], [b"most 3"], {PUT: 1}, [PUT, "foo", 3], Desk()]:
            if value not in ([], (), ["a"], ("a", "b")):
                self.assertEqual(error_of(replay, value), ("BadDesk", ("lines",)), value)


class Parting(unittest.TestCase):
    def test_stories(self):
        lines = [PUT, OTHER, "most 3", "width 0", "drop a"]
        for one in range(6):
            for other in range(6):
                mine, its = replay(lines[:one]), replay(lines[:other])
                self.assertEqual(parting(mine, its), min(one, other))
        mine, its = replay([PUT, OTHER, "most 3"]), replay([PUT, "most 3", OTHER])
        self.assertEqual(mine, its)
        self.assertEqual((parting(mine, its), parting(its, mine)), (1, 1))
        self.assertEqual(parting(replay([OTHER, "most 3"]), replay([PUT, "most 3"])), 0)
        its.undo()
        its.undo()
        its.told(OTHER, "most 3")
        self.assertEqual(parting(mine, its), 3)

    def test_wrong(self):
        for value in ODD + [Desk, Desk().shelf]:
            self.assertEqual(error_of(parting, value, value), ("BadDesk", ("one",)))
            self.assertEqual(error_of(parting, Desk(), value), ("BadDesk", ("other",)))
