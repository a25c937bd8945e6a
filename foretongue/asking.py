"""Which gap to ask about, and what gaps tell of a saying."""

from foretongue.errors import Nothing
from foretongue.gaps import all_standing, need_few_fillings, need_gap, need_gapped, need_standing
from foretongue.grounds import Grounds
from foretongue.loose_cells import cell_at, part_of, whole_sheet
from foretongue.lots import lots_below
from foretongue.papers import Paper
from foretongue.sayings import need_saying
from foretongue.sheets import need_language, need_row
from foretongue.walks import mother_beside


class Ask(Paper):
    """A gap, and how many loose fillings that can stand have one cell there, at most."""

    def __init__(self, row, language, left):
        super().__init__("ask", row, language, left)
        self.row, self.language, self.left = self.parts


class Key(Paper):
    """Gaps at which no two unlike loose fillings that can stand agree."""

    def __init__(self, gaps):
        super().__init__("key", gaps)
        self.gaps = self.parts[0]


class Tells(Paper):
    """The cells of a gap for which a saying is sure, never, and open."""

    def __init__(self, sure, never, either):
        super().__init__("tells", sure, never, either)
        self.sure, self.never, self.either = self.parts


class Settled(Paper):
    """Gaps that settle a saying."""

    def __init__(self, gaps):
        super().__init__("settled", gaps)
        self.gaps = self.parts[0]


def gaps_with(sheet, numbers):
    """The tuple of the gaps with these numbers."""
    return tuple([sheet.gaps[number] for number in numbers])


def grouped_at(sheet, standing, numbers):
    """The list of the groups of loose fillings that agree at the gaps with these numbers."""
    groups = {}
    for filling in standing:
        groups.setdefault(part_of(sheet, filling, numbers), []).append(filling)
    return list(groups.values())


def many_left(sheet, standing, number):
    """How many of some loose fillings have one cell at a gap, at most."""
    return max([len(group) for group in grouped_at(sheet, standing, [number])])


def best_gap(sheet, width, most):
    """The Ask of the first gap whose commonest cell is least common."""
    need_gapped(sheet, width, most)
    if sheet.is_whole:
        raise Nothing()
    need_few_fillings(sheet)
    standing = all_standing(sheet, width, most)
    need_standing(standing)
    counts = [many_left(sheet, standing, number) for number in range(len(sheet.gaps))]
    row, language = sheet.gaps[counts.index(min(counts))]
    return Ask(row, language, min(counts))


def tell_all_apart(sheet, standing, numbers):
    """Whether no two of some loose fillings agree at the gaps with these numbers."""
    return len(grouped_at(sheet, standing, numbers)) == len(standing)


def first_key(sheet, standing):
    """The numbers of the first of the fewest gaps that tell some loose fillings apart; all gaps do."""
    for numbers in lots_below(len(sheet.gaps)):
        if tell_all_apart(sheet, standing, numbers):
            return numbers
    return None


def key_gaps(sheet, width, most):
    """The Key of the first of the fewest gaps that tell all loose fillings that can stand apart."""
    need_gapped(sheet, width, most)
    need_few_fillings(sheet)
    standing = all_standing(sheet, width, most)
    need_standing(standing)
    return Key(gaps_with(sheet, first_key(sheet, standing)))


def truths_of(sheet, width, most, saying, filling):
    """The pair of whether a saying holds, and does not hold, for some mother of a loose filling."""
    grounds = Grounds(whole_sheet(sheet, filling), width)
    claim = saying.claim_in(sheet)
    holds_once = mother_beside(grounds, most, [(claim, False)]) is not None
    fails_once = mother_beside(grounds, most, [(claim, True)]) is not None
    return holds_once, fails_once


def standing_truths(sheet, width, most, saying):
    """For each loose filling that can stand whether a saying holds, and does not hold, for some mother."""
    standing = all_standing(sheet, width, most)
    return {filling: truths_of(sheet, width, most, saying, filling) for filling in standing}


def word_for(truths, group):
    """Whether a saying is sure, never or open over some loose fillings."""
    if not any([truths[filling][1] for filling in group]):
        return "sure"
    if not any([truths[filling][0] for filling in group]):
        return "never"
    return "open"


def tells(sheet, width, most, saying, row, language):
    """The Tells of the cells at a gap: for each whether a saying is sure, never or open over the fillings with it."""
    need_gapped(sheet, width, most)
    need_saying(saying, "saying")
    need_row(sheet, row)
    need_language(sheet, language)
    saying.need_in(sheet)
    need_gap(sheet, row, language)
    need_few_fillings(sheet)
    truths = standing_truths(sheet, width, most, saying)
    standing = list(truths)
    need_standing(standing)
    number = sheet.gaps.index((row, language))
    cells = {"sure": [], "never": [], "open": []}
    for group in grouped_at(sheet, standing, [number]):
        cells[word_for(truths, group)].append(cell_at(sheet, group[0], number))
    return Tells(sorted(cells["sure"]), sorted(cells["never"]), sorted(cells["open"]))


def settle_it(sheet, truths, numbers):
    """Whether the gaps with these numbers settle a saying, by its truths for the fillings that can stand."""
    groups = grouped_at(sheet, list(truths), numbers)
    return all([word_for(truths, group) != "open" for group in groups])


def first_settling(sheet, truths):
    """The numbers of the first of the fewest gaps that settle a saying, None if not even all do."""
    for numbers in lots_below(len(sheet.gaps)):
        if settle_it(sheet, truths, numbers):
            return numbers
    return None


def need_settled(sheet, width, most, saying):
    """The errors of a saying about a sheet whose loose fillings are listed."""
    need_gapped(sheet, width, most)
    need_saying(saying, "saying")
    saying.need_in(sheet)
    need_few_fillings(sheet)


def settling(sheet, width, most, saying):
    """The Settled of the first of the fewest gaps that settle a saying, None if not even all do."""
    need_settled(sheet, width, most, saying)
    truths = standing_truths(sheet, width, most, saying)
    need_standing(list(truths))
    numbers = first_settling(sheet, truths)
    if numbers is None:
        return None
    return Settled(gaps_with(sheet, numbers))
