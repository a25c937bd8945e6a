"""Stories: the deed lines of desks, played back and compared."""

from foretongue.checks import is_list
from foretongue.desk import Desk
from foretongue.desk_lines import is_ask
from foretongue.errors import BadDesk, BadLine, BadText, TongueError


def need_lines(lines):
    """BadDesk for what is no list of strings."""
    if not is_list(lines) or not all([isinstance(line, str) for line in lines]):
        raise BadDesk("lines")


def do_deed(desk, line):
    """Tells a desk a deed line; BadText for an ask line."""
    if is_ask(line):
        raise BadText(0, 0)
    desk(line)


def replay(lines):
    """A new Desk that is told these deed lines."""
    need_lines(lines)
    desk = Desk()
    for index, line in enumerate(lines):
        try:
            do_deed(desk, line)
        except TongueError as error:
            raise BadLine(index, error)
    return desk


def need_desk(value, part):
    """BadDesk for what is no desk."""
    if not isinstance(value, Desk):
        raise BadDesk(part)


def parting(one, other):
    """How many lines the stories of two desks begin with alike."""
    need_desk(one, "one")
    need_desk(other, "other")
    many = 0
    for mine, its in zip(one.story, other.story):
        if mine != its:
            return many
        many += 1
    return many
