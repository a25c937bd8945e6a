"""A plain reading of the desk: each answer comes of the whole story, told anew."""

from foretongue.desk_asks import answer_of
from foretongue.desk_deeds import changed
from foretongue.errors import TongueError
from foretongue.shelves import Shelf

ASK_WORDS = ("names", "show", "size", "mother", "same", "alike", "strangers", "stand", "done", "parts", "fallen")
LINES = ["put a sheet one two : sa sa / si zi", "put b sheet x : ka", "put c course k > c / * _ i", "put d course -", "drop a",
         "drop b", "drop c", "row a si si", "row a sa .", "row b ki", "row c ki", "strike a 0", "strike a 1 2", "strike b 0",
         "fill a 0 two .", "fill a 0 two zz", "fill a 1 one si", "width 0", "width 1", "width 2", "most 3", "most 8", "most 0",
         "names", "width", "most", "show a", "show c", "size a", "mother a", "same a 0 2", "alike a 0 1", "strangers a",
         "stand a 0 two", "done c kiki", "parts c d ik", "fallen c cik", "foo", "", "names x", "put a", None, 7, ["names"]]


def is_ask(line):
    if not isinstance(line, str):
        return False
    return line in ("width", "most") or line.split(" ")[0] in ASK_WORDS


def shelf_of(story):
    shelf = Shelf()
    for line in story:
        shelf = changed(shelf, line)[0]
    return shelf


class PlainDesk:
    """The lines that were done and not taken back, and those that can be done again."""

    def __init__(self, story=(), undone=()):
        self.story = tuple(story)
        self.undone = tuple(undone)

    def tell(self, line):
        """The answer to a line; the error itself if it is refused."""
        shelf = shelf_of(self.story)
        if is_ask(line):
            return answer_of(shelf, line)
        told = changed(shelf, line)[1]
        self.story, self.undone = (*self.story, line), ()
        return told

    def told(self, lines):
        """The answers to some lines, or the index of the first one that is refused, and its error."""
        before, answers = (self.story, self.undone), []
        for index, line in enumerate(lines):
            try:
                answers.append(self.tell(line))
            except TongueError as error:
                self.story, self.undone = before
                return index, type(error).__name__, tuple(vars(error).values())
        return answers

    def undo(self):
        if not self.story:
            return None
        self.undone = (*self.undone, self.story[-1])
        self.story = self.story[:-1]
        return self.undone[-1]

    def redo(self):
        if not self.undone:
            return None
        self.story = (*self.story, self.undone[-1])
        self.undone = self.undone[:-1]
        return self.story[-1]
