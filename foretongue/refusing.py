"""The least mothers of a sheet, or trees that refuse all; rows that bar."""

from foretongue.dyeings import need_width
from foretongue.grounds import Grounds
from foretongue.lots import lots_of_size
from foretongue.mothers import need_asked, need_few_places
from foretongue.papers import Denial, Paper
from foretongue.sheets import need_whole
from foretongue.walks import least_mother, refusing_tree


class Mother(Paper):
    """A mother of at most so many sounds."""

    def __init__(self, dyeing):
        super().__init__("mother", dyeing)
        self.dyeing = self.parts[0]


class NoMother(Denial):
    """There is no mother of at most so many sounds: a right refusing tree."""

    def __init__(self, tree):
        super().__init__("nomother", tree)
        self.tree = self.parts[0]


class Least(Paper):
    """A mother of fewest sounds, and a refusing tree for one sound fewer, None if it has one."""

    def __init__(self, dyeing, tree):
        super().__init__("least", dyeing, tree)
        self.dyeing, self.tree = self.parts


class Barring(Denial):
    """Rows that bar, a refusing tree of these alone, and a mother of the others for each one struck."""

    def __init__(self, rows, tree, others):
        super().__init__("barring", rows, tree, others)
        self.rows, self.tree, self.others = self.parts


def told_mother(sheet, width, most):
    """The Mother of the least mother of at most so many sounds, or a NoMother."""
    grounds = Grounds(sheet, width)
    dyeing = least_mother(grounds, most)
    if dyeing is None:
        return NoMother(refusing_tree(grounds, most, []))
    return Mother(dyeing)


def mother_of(sheet, width, most):
    """The Mother of the least mother of at most so many sounds, or a NoMother."""
    need_asked(sheet, width, most)
    return told_mother(sheet, width, most)


def least_size(sheet, width):
    """The Least of the least one of the mothers of fewest sounds."""
    need_whole(sheet, "sheet")
    need_width(width)
    need_few_places(sheet)
    grounds = Grounds(sheet, width)
    most = 1
    dyeing = least_mother(grounds, most)
    # All places unlike are a mother of either width, so the search ends.
    while dyeing is None:
        most += 1
        dyeing = least_mother(grounds, most)
    return Least(dyeing, None if most == 1 else refusing_tree(grounds, most - 1, []))


def least_of_rows(sheet, width, most, rows):
    """The least mother of at most so many sounds of the sheet of these rows; that of no rows is ()."""
    if len(rows) == 0:
        return ()
    return least_mother(Grounds(sheet.of_rows(rows), width), most)


def rows_left(rows):
    """For each of some rows the list of the others."""
    return [[row for row in rows if row != struck] for struck in rows]


def first_barring_rows(sheet, width, most):
    """The first of the fewest rows that have no mother; all fewer ones have one."""
    many = len(sheet.rows)
    for size in range(1, many + 1):
        for rows in lots_of_size(many, size):
            if least_of_rows(sheet, width, most, rows) is None:
                return rows
    return None


def barring_rows(sheet, width, most):
    """What mother_of tells if there is a mother, otherwise the Barring of the first of the fewest rows."""
    need_asked(sheet, width, most)
    told = told_mother(sheet, width, most)
    if told:
        return told
    rows = first_barring_rows(sheet, width, most)
    tree = refusing_tree(Grounds(sheet.of_rows(rows), width), most, [])
    return Barring(rows, tree, [least_of_rows(sheet, width, most, left) for left in rows_left(rows)])
