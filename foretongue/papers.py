"""Papers, which tell an answer and what shows it, and denials, which say no."""


def fixed(value):
    """A value with each list in it as a tuple, all the way in through lists and tuples."""
    if isinstance(value, (list, tuple)):
        return tuple([fixed(item) for item in value])
    return value


def are_equal(one, other):
    """Whether two papers are of the same class, with equal kind words and parts."""
    if one.__class__.__name__ != other.__class__.__name__:
        return False
    return one.kind == other.kind and one.parts == other.parts


def is_called(value, name):
    """Whether the class that made a value has just this name.

    An object of a class below is made by calling that class, and so is none of this one.
    """
    return value.__class__.__name__ == name


class Paper:
    """A paper: true."""

    def __init__(self, kind, *parts):
        self.kind = kind
        self.parts = fixed(parts)

    def __bool__(self):
        return True

    def __eq__(self, other):
        return isinstance(other, Paper) and are_equal(self, other)


class Denial(Paper):
    """A paper that says no: false."""

    def __init__(self, kind, *parts):
        super().__init__(kind, *parts)

    def __bool__(self):
        return False

    def __eq__(self, other):
        return isinstance(other, Denial) and are_equal(self, other)
