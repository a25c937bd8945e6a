"""Which values are right papers of zero mothers."""

from foretongue.checks import is_list, is_numbers
from foretongue.columns import columns_of
from foretongue.lots import lots_below
from foretongue.papers import is_called
from foretongue.sheets import need_whole
from foretongue.zero import Telling, ZeroMother, pairs_not_parted, unlike_columns, zero_of


def shows_zero(sheet, value):
    """Whether a value is the ZeroMother of the sheet."""
    need_whole(sheet, "sheet")
    if not isinstance(value, ZeroMother) or not is_called(value, "ZeroMother"):
        return False
    if not is_numbers(value.dyeing):
        return False
    columns = columns_of(sheet)
    return value.parts == (zero_of(columns), tuple(unlike_columns(columns)))


def is_pair_among(value, pairs):
    """Whether a value is one of some pairs of integers."""
    return is_numbers(value) and value in pairs


def is_telling(sheet, value):
    """Whether a Telling has languages that tell the sheet, and a right pair for each set ahead."""
    columns = columns_of(sheet)
    lots = lots_below(len(sheet.languages))
    sets = [tuple([sheet.languages[index] for index in lot]) for lot in lots]
    if value.languages not in sets or not is_list(value.pairs):
        return False
    at = sets.index(value.languages)
    if len(value.pairs) != at or len(pairs_not_parted(columns, lots[at])) > 0:
        return False
    ahead = zip(value.pairs, lots)
    return all([is_pair_among(pair, pairs_not_parted(columns, lot)) for pair, lot in ahead])


def shows_telling(sheet, value):
    """Whether a value is a Telling of any languages that tell the sheet, with any right pairs."""
    need_whole(sheet, "sheet")
    if not isinstance(value, Telling) or not is_called(value, "Telling"):
        return False
    return is_telling(sheet, value)
