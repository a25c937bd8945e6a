"""Which values are right papers of mothers, and of what has none."""

from foretongue.checks import is_list
from foretongue.dyeings import is_dyeing, many_sounds, need_width
from foretongue.grounds import Grounds, least_barring
from foretongue.lots import is_lot
from foretongue.mothers import need_told
from foretongue.papers import is_called
from foretongue.refusing import Barring, Least, Mother, NoMother, rows_left
from foretongue.right_trees import is_right_tree
from foretongue.sheets import need_whole


def is_right_mother(grounds, most, dyeing):
    """Whether a value is a mother of at most so many sounds."""
    if not is_dyeing(dyeing) or len(dyeing) != grounds.many or many_sounds(dyeing) > most:
        return False
    return least_barring(grounds, dyeing) is None


def is_mother_of_rows(sheet, width, most, rows, dyeing):
    """Whether a value is a mother of at most so many sounds of the sheet of these rows, () of none."""
    if len(rows) == 0:
        return is_dyeing(dyeing) and len(dyeing) == 0
    return is_right_mother(Grounds(sheet.of_rows(rows), width), most, dyeing)


def is_told_mother(sheet, width, most, value):
    """Whether a value is a Mother of any mother of at most so many sounds."""
    if not isinstance(value, Mother) or not is_called(value, "Mother"):
        return False
    return is_right_mother(Grounds(sheet, width), most, value.dyeing)


def shows_mother(sheet, width, most, value):
    """Whether a value is a Mother of any mother of at most so many sounds, or a right NoMother."""
    need_told(sheet, width, most)
    if isinstance(value, NoMother) and is_called(value, "NoMother"):
        return is_right_tree(Grounds(sheet, width), most, [], value.tree)
    return is_told_mother(sheet, width, most, value)


def shows_least(sheet, width, value):
    """Whether a value is a Least of any mother, with a right tree for one sound fewer."""
    need_whole(sheet, "sheet")
    need_width(width)
    if not isinstance(value, Least) or not is_called(value, "Least"):
        return False
    grounds = Grounds(sheet, width)
    if not is_right_mother(grounds, grounds.many, value.dyeing):
        return False
    size = many_sounds(value.dyeing)
    if size == 1:
        return value.tree is None
    return is_right_tree(grounds, size - 1, [], value.tree)


def is_barring(sheet, width, most, value):
    """Whether a Barring has rows that bar, a right tree of them, and a mother for each one struck."""
    if not is_lot(value.rows, len(sheet.rows)) or len(value.rows) == 0:
        return False
    if not is_list(value.others) or len(value.others) != len(value.rows):
        return False
    lefts = zip(rows_left(value.rows), value.others)
    if not all([is_mother_of_rows(sheet, width, most, left, dyeing) for left, dyeing in lefts]):
        return False
    return is_right_tree(Grounds(sheet.of_rows(value.rows), width), most, [], value.tree)


def shows_barring(sheet, width, most, value):
    """Whether a value is a Mother of any mother, or a Barring of any rows that bar, with any mothers."""
    need_told(sheet, width, most)
    if isinstance(value, Barring) and is_called(value, "Barring"):
        return is_barring(sheet, width, most, value)
    return is_told_mother(sheet, width, most, value)
