"""The errors of the package: each keeps its fields in attributes of their names."""


class TongueError(ValueError):
    """The base of all errors of the package."""


class BadWord(TongueError):
    """What is passed is no word, or no sound."""

    def __init__(self, part):
        self.part = part


class BadStock(TongueError):
    """What is passed is no stock of sounds."""

    def __init__(self, part):
        self.part = part


class BadShift(TongueError):
    """What is passed is no shift, or makes none."""

    def __init__(self, part):
        self.part = part


class BadCourse(TongueError):
    """What is passed is no course, or makes none."""

    def __init__(self, part):
        self.part = part


class BadSheet(TongueError):
    """What is passed is no sheet, or makes none."""

    def __init__(self, part):
        self.part = part


class BadDyeing(TongueError):
    """What is passed is no dyeing."""

    def __init__(self, part):
        self.part = part


class BadSaying(TongueError):
    """What is passed is no saying, or makes none."""

    def __init__(self, part):
        self.part = part


class BadPairs(TongueError):
    """What is passed are no pairs, or makes none."""

    def __init__(self, part):
        self.part = part


class BadFamily(TongueError):
    """What is passed is no family, or makes none."""

    def __init__(self, part):
        self.part = part


class BadNumber(TongueError):
    """What is passed is no integer, or beyond its bounds."""

    def __init__(self, part):
        self.part = part


class BadPaper(TongueError):
    """What is passed is no class of papers."""

    def __init__(self, part):
        self.part = part


class BadDesk(TongueError):
    """What is passed is no desk, or makes none."""

    def __init__(self, part):
        self.part = part


class Misfit(TongueError):
    """Values that are right alone do not fit together."""

    def __init__(self, part):
        self.part = part


class Missing(TongueError):
    """A value that is none here; only the classes below are raised."""

    def __init__(self, value):
        self.value = value


class NoRow(Missing):
    """The number of a row that is not there."""


class NoLanguage(Missing):
    """A language that is not there."""


class NoPlace(Missing):
    """A place that is not there."""


class NoShift(Missing):
    """The number of a shift that is not there."""


class NoName(Missing):
    """A name under which nothing is kept."""


class Twice(TongueError):
    """A value that stands there already."""

    def __init__(self, value):
        self.value = value


class Impossible(TongueError):
    """What is asked cannot be; the paper is a denial that shows it."""

    def __init__(self, paper):
        self.paper = paper


class TooMany(TongueError):
    """There are more than most of what is told."""

    def __init__(self, what, most):
        self.what = what
        self.most = most


class Nothing(TongueError):
    """There is nothing that could be told, or done."""


class BadText(TongueError):
    """An item of a text that cannot stand there, or is missing."""

    def __init__(self, line, item):
        self.line = line
        self.item = item


class BadLine(TongueError):
    """A line of a desk, and the error that is raised there."""

    def __init__(self, line, error):
        self.line = line
        self.error = error
