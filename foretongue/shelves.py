"""Shelves: what a desk keeps."""

from foretongue.checks import is_list, is_name
from foretongue.courses import Course
from foretongue.dyeings import need_width
from foretongue.errors import BadDesk, Misfit, NoName
from foretongue.mothers import MOST_SOUNDS
from foretongue.needs import need_number
from foretongue.sheets import Sheet, need_once


def is_named_thing(value):
    """Whether a value is a pair of a name and a sheet or a course."""
    if not is_list(value) or len(value) != 2:
        return False
    return is_name(value[0]) and isinstance(value[1], (Sheet, Course))


def need_shelf(value, part):
    """BadDesk for what is no shelf."""
    if not isinstance(value, Shelf):
        raise BadDesk(part)


class Shelf:
    """Sheets and courses under names, in order, a width and a greatest size."""

    def __init__(self, things=(), width=1, most=8):
        if not is_list(things) or not all([is_named_thing(pair) for pair in things]):
            raise BadDesk("things")
        need_once([name for name, _ in things])
        need_width(width)
        need_number(most, "most", 1, MOST_SOUNDS)
        self.things = tuple([tuple(pair) for pair in things])
        self.names = tuple([name for name, _ in things])
        self.width = width
        self.most = most

    def __eq__(self, other):
        if not isinstance(other, Shelf):
            return False
        return self.things == other.things and self.width == other.width and self.most == other.most

    def thing(self, name):
        """The sheet or the course that is kept under a name."""
        if not isinstance(name, str) or name not in self.names:
            raise NoName(name)
        return self.things[self.names.index(name)][1]


def sheet_named(shelf, name):
    """The sheet that is kept under a name; Misfit for a course."""
    thing = shelf.thing(name)
    if not isinstance(thing, Sheet):
        raise Misfit("kinds")
    return thing


def course_named(shelf, name):
    """The course that is kept under a name; Misfit for a sheet."""
    thing = shelf.thing(name)
    if not isinstance(thing, Course):
        raise Misfit("kinds")
    return thing
