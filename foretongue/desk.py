"""The desk: it keeps things under names, answers lines, and can take deeds back."""

from foretongue.desk_asks import answer_of
from foretongue.desk_deeds import changed
from foretongue.desk_lines import is_ask
from foretongue.errors import BadLine, Nothing, TongueError
from foretongue.shelves import Shelf


class Desk:
    """A shelf, the story of the deeds that made it, and what was taken back.

    `ahead` has the shelf ahead of each line of the story, `behind` the pairs of a line that
    was taken back and the shelf behind it, the last one first to be done again.
    """

    def __init__(self):
        self.shelf = Shelf()
        self.story = ()
        self.ahead = ()
        self.behind = ()

    def __len__(self):
        return len(self.shelf.things)

    def __contains__(self, value):
        return isinstance(value, str) and value in self.shelf.names

    def __eq__(self, other):
        return isinstance(other, Desk) and self.shelf == other.shelf

    def __call__(self, line):
        """The answer to a line."""
        if is_ask(line):
            return answer_of(self.shelf, line)
        shelf, told = changed(self.shelf, line)
        self.ahead = (*self.ahead, self.shelf)
        self.story = (*self.story, line)
        self.shelf = shelf
        self.behind = ()
        return told

    def told(self, *lines):
        """The tuple of the answers to some lines; if one is refused the desk stays as before."""
        twin = self.twin()
        answers = answers_at(twin, lines)
        self.be_as(twin)
        return answers

    def tried(self, *lines):
        """The tuple of the answers to some lines; the desk stays as before."""
        return answers_at(self.twin(), lines)

    def undo(self):
        """Takes back the last line of the story, and returns it."""
        if len(self.story) == 0:
            raise Nothing()
        line = self.story[-1]
        self.behind = (*self.behind, (line, self.shelf))
        self.shelf = self.ahead[-1]
        self.ahead = self.ahead[:-1]
        self.story = self.story[:-1]
        return line

    def redo(self):
        """Does again the line that was taken back last, and returns it."""
        if len(self.behind) == 0:
            raise Nothing()
        line, shelf = self.behind[-1]
        self.behind = self.behind[:-1]
        self.ahead = (*self.ahead, self.shelf)
        self.story = (*self.story, line)
        self.shelf = shelf
        return line

    def twin(self):
        """A desk that is in all as this one."""
        twin = Desk()
        twin.be_as(self)
        return twin

    def be_as(self, other):
        """Makes the desk in all as another one."""
        self.shelf = other.shelf
        self.story = other.story
        self.ahead = other.ahead
        self.behind = other.behind


def answers_at(desk, lines):
    """The tuple of the answers of a desk to some lines; BadLine for the first one that is refused."""
    answers = []
    for index, line in enumerate(lines):
        try:
            answers.append(desk(line))
        except TongueError as error:
            raise BadLine(index, error)
    return tuple(answers)
