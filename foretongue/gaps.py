"""What can stand in the gaps of a sheet."""

from foretongue.cells import width_of
from foretongue.checks import is_list, is_long_word
from foretongue.columns import NOTHING_LEFT
from foretongue.dyeings import need_width
from foretongue.errors import BadSheet, Impossible, Misfit, TooMany
from foretongue.grounds import Grounds
from foretongue.loose_cells import (
    DIGITS,
    cell_at,
    counted_anew,
    is_loose_filling,
    languages_of_gaps,
    loose_fillings,
    many_fillings,
    signs_known,
    whole_sheet,
)
from foretongue.mothers import MOST_SOUNDS, need_few_places
from foretongue.needs import need_number
from foretongue.papers import Denial, Paper
from foretongue.sheets import need_language, need_row, need_sheet
from foretongue.walks import least_mother

MOST_FILLINGS = 60


class Filled(Paper):
    """A loose filling that can stand, and a mother of its whole sheet."""

    def __init__(self, cells, dyeing):
        super().__init__("filled", cells, dyeing)
        self.cells, self.dyeing = self.parts


class ForcedCell(Paper):
    """The only cell of a gap, one without digits."""

    def __init__(self, cell):
        super().__init__("forcedcell", cell)
        self.cell = self.parts[0]


class OpenCell(Paper):
    """All cells of a gap: several, or one with a digit."""

    def __init__(self, cells):
        super().__init__("opencell", cells)
        self.cells = self.parts[0]


class NoFilling(Denial):
    """No filling can stand."""

    def __init__(self):
        super().__init__("nofilling")


def need_gapped(sheet, width, most):
    """The errors of a sheet that may have gaps, a width and a greatest size."""
    need_sheet(sheet, "sheet")
    need_width(width)
    need_number(most, "most", 1, MOST_SOUNDS)


def need_gap(sheet, row, language):
    """Misfit for a cell that is no gap."""
    if (row, language) not in sheet.gaps:
        raise Misfit("gap")


def need_few_fillings(sheet):
    """The errors of a sheet whose loose fillings are listed."""
    need_few_places(sheet)
    if many_fillings(sheet) > MOST_FILLINGS:
        raise TooMany("fillings", MOST_FILLINGS)


def is_signs(value, others):
    """Whether a value is a string of sounds, `-` and some other signs, perhaps empty."""
    if not isinstance(value, str):
        return False
    return all([sign == NOTHING_LEFT or sign in others or is_long_word(sign) for sign in value])


def are_signs(cells, others):
    """Whether a value is a list of strings of sounds, `-` and some other signs."""
    return is_list(cells) and all([is_signs(cell, others) for cell in cells])


def are_as_long(sheet, cells):
    """Whether there is a string for each gap, as long as its row's cells."""
    lengths = [width_of(sheet.rows[row]) for row, _ in sheet.gaps]
    return [len(cell) for cell in cells] == lengths


def need_cells(sheet, cells, others):
    """The errors of what is no list of a string of signs for each gap, as long as its row's cells."""
    if not are_signs(cells, others):
        raise BadSheet("cells")
    if len(cells) != len(sheet.gaps):
        raise Misfit("gaps")
    if not are_as_long(sheet, cells):
        raise Misfit("places")


def loose(sheet, cells):
    """The loose filling of a filling."""
    need_sheet(sheet, "sheet")
    need_cells(sheet, cells, "")
    need_few_places(sheet)
    return counted_anew(cells, languages_of_gaps(sheet), signs_known(sheet))


def filled(sheet, cells):
    """The whole Sheet of a loose filling."""
    need_sheet(sheet, "sheet")
    need_cells(sheet, cells, DIGITS)
    if not is_loose_filling(sheet, cells):
        raise BadSheet("loose")
    need_few_places(sheet)
    return whole_sheet(sheet, cells)


def standing_fillings(sheet, width, most):
    """The ascending list of the pairs of a loose filling that can stand and its least mother."""
    found = []
    for filling in loose_fillings(sheet):
        dyeing = least_mother(Grounds(whole_sheet(sheet, filling), width), most)
        if dyeing is not None:
            found.append((filling, dyeing))
    return found


def all_standing(sheet, width, most):
    """The ascending list of the loose fillings that can stand."""
    return [filling for filling, _ in standing_fillings(sheet, width, most)]


def need_standing(standing):
    """Impossible if none can stand."""
    if len(standing) == 0:
        raise Impossible(NoFilling())


def fillings(sheet, width, most):
    """The ascending tuple of the Filled of all loose fillings that can stand, with their least mothers."""
    need_gapped(sheet, width, most)
    need_few_fillings(sheet)
    return tuple([Filled(filling, dyeing) for filling, dyeing in standing_fillings(sheet, width, most)])


def need_told_gap(sheet, width, most, row, language):
    """The errors of a gap, told by its row and its language, of a sheet whose loose fillings are listed."""
    need_gapped(sheet, width, most)
    need_row(sheet, row)
    need_language(sheet, language)
    need_gap(sheet, row, language)
    need_few_fillings(sheet)


def cells_at(sheet, standing, number):
    """The ascending list of the cells that some loose fillings have at the gap with this number."""
    return sorted(set([cell_at(sheet, filling, number) for filling in standing]))


def cells_told(sheet, width, most, row, language):
    """The ascending list of the cells that can stand at a gap, perhaps none."""
    standing = all_standing(sheet, width, most)
    return cells_at(sheet, standing, sheet.gaps.index((row, language)))


def is_forced(cells):
    """Whether of some cells there is one alone, without digits."""
    return len(cells) == 1 and not any([sign in DIGITS for sign in cells[0]])


def cell_of(sheet, width, most, row, language):
    """The ForcedCell or the OpenCell of the cells that can stand at a gap."""
    need_told_gap(sheet, width, most, row, language)
    cells = cells_told(sheet, width, most, row, language)
    need_standing(cells)
    if is_forced(cells):
        return ForcedCell(cells[0])
    return OpenCell(cells)
