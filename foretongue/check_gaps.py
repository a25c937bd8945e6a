"""Which values are right papers of gaps."""

from foretongue.asking import (
    Ask,
    Key,
    Settled,
    first_key,
    first_settling,
    many_left,
    need_settled,
    settle_it,
    standing_truths,
    tell_all_apart,
)
from foretongue.check_mothers import is_right_mother
from foretongue.checks import first_twice, is_integer, is_list
from foretongue.gaps import (
    Filled,
    ForcedCell,
    NoFilling,
    OpenCell,
    all_standing,
    are_as_long,
    are_signs,
    cells_told,
    is_forced,
    need_few_fillings,
    need_gapped,
    need_told_gap,
)
from foretongue.grounds import Grounds
from foretongue.loose_cells import DIGITS, is_loose_filling, whole_sheet
from foretongue.mothers import need_few_places
from foretongue.papers import is_called


def is_filled(sheet, width, most, value):
    """Whether a Filled has a loose filling, and a mother of its whole sheet."""
    if not are_signs(value.cells, DIGITS) or not are_as_long(sheet, value.cells):
        return False
    if not is_loose_filling(sheet, value.cells):
        return False
    return is_right_mother(Grounds(whole_sheet(sheet, value.cells), width), most, value.dyeing)


def shows_filled(sheet, width, most, value):
    """Whether a value is a Filled of a loose filling, and of any mother of its whole sheet."""
    need_gapped(sheet, width, most)
    need_few_places(sheet)
    if not isinstance(value, Filled) or not is_called(value, "Filled"):
        return False
    return is_filled(sheet, width, most, value)


def are_strings(value):
    """Whether a value is a list of strings."""
    return is_list(value) and all([isinstance(item, str) for item in value])


def shows_cell(sheet, width, most, row, language, value):
    """Whether a value is the ForcedCell or the OpenCell of a gap, its cells in any order, or a right NoFilling."""
    need_told_gap(sheet, width, most, row, language)
    cells = cells_told(sheet, width, most, row, language)
    if isinstance(value, ForcedCell) and is_called(value, "ForcedCell"):
        return is_forced(cells) and value.cell == cells[0]
    if isinstance(value, OpenCell) and is_called(value, "OpenCell"):
        if len(cells) == 0 or is_forced(cells) or not are_strings(value.cells):
            return False
        return sorted(value.cells) == cells
    if isinstance(value, NoFilling) and is_called(value, "NoFilling"):
        return len(cells) == 0
    return False


def is_gap(sheet, value):
    """Whether a value is a gap of the sheet, told as a pair."""
    if not is_list(value) or len(value) != 2 or not is_integer(value[0]):
        return False
    return tuple(value) in sheet.gaps


def shows_ask(sheet, width, most, value):
    """Whether a value is an Ask of any gap whose commonest cell is least common."""
    need_gapped(sheet, width, most)
    need_few_fillings(sheet)
    if not isinstance(value, Ask) or not is_called(value, "Ask"):
        return False
    if not is_gap(sheet, (value.row, value.language)) or not is_integer(value.left):
        return False
    standing = all_standing(sheet, width, most)
    if len(standing) == 0:
        return False
    counts = [many_left(sheet, standing, number) for number in range(len(sheet.gaps))]
    number = sheet.gaps.index((value.row, value.language))
    return value.left == counts[number] == min(counts)


def are_gaps(sheet, value):
    """Whether a value is a list of gaps of the sheet, in any order, each once."""
    if not is_list(value) or not all([is_gap(sheet, gap) for gap in value]):
        return False
    return first_twice([sheet.gaps.index(gap) for gap in value]) is None


def numbers_of(sheet, told):
    """The ascending tuple of the numbers of some gaps."""
    return tuple(sorted([sheet.gaps.index(gap) for gap in told]))


def shows_key(sheet, width, most, value):
    """Whether a value is a Key of any gaps that tell apart what can stand, as few as can be."""
    need_gapped(sheet, width, most)
    need_few_fillings(sheet)
    if not isinstance(value, Key) or not is_called(value, "Key") or not are_gaps(sheet, value.gaps):
        return False
    standing = all_standing(sheet, width, most)
    if len(standing) == 0 or not tell_all_apart(sheet, standing, numbers_of(sheet, value.gaps)):
        return False
    return len(value.gaps) == len(first_key(sheet, standing))


def shows_settled(sheet, width, most, saying, value):
    """Whether a value is a Settled of any gaps that settle a saying, as few as can be."""
    need_settled(sheet, width, most, saying)
    if not isinstance(value, Settled) or not is_called(value, "Settled") or not are_gaps(sheet, value.gaps):
        return False
    truths = standing_truths(sheet, width, most, saying)
    if len(truths) == 0 or not settle_it(sheet, truths, numbers_of(sheet, value.gaps)):
        return False
    return len(value.gaps) == len(first_settling(sheet, truths))
