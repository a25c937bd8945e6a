"""The zero mother of a whole sheet: a sound for each column row."""

from foretongue.cells import is_cell
from foretongue.checks import is_list, is_numbers
from foretongue.columns import columns_of, pairs_of_places
from foretongue.errors import BadSheet, Misfit
from foretongue.lots import lots_below
from foretongue.papers import Paper
from foretongue.sheets import Sheet, need_names, need_once, need_whole


class ZeroMother(Paper):
    """The zero mother, and the column rows of its sounds, in order."""

    def __init__(self, dyeing, columns):
        super().__init__("zeromother", dyeing, columns)
        self.dyeing, self.columns = self.parts


class Telling(Paper):
    """Languages that tell the sheet, and a pair of unlike places for each set ahead that does not."""

    def __init__(self, languages, pairs):
        super().__init__("telling", languages, pairs)
        self.languages, self.pairs = self.parts


def unlike_columns(columns):
    """The list of the unlike ones of some column rows, in the order in which they come first."""
    return list({column: True for column in columns})


def zero_of(columns):
    """The tuple that has for each of some column rows its number among the unlike ones."""
    numbers = {column: number for number, column in enumerate(unlike_columns(columns))}
    return tuple([numbers[column] for column in columns])


def zero(sheet):
    """The zero mother of a whole sheet."""
    need_whole(sheet, "sheet")
    return zero_of(columns_of(sheet))


def zero_mother(sheet):
    """The ZeroMother of a whole sheet."""
    need_whole(sheet, "sheet")
    columns = columns_of(sheet)
    return ZeroMother(zero_of(columns), unlike_columns(columns))


def are_parted(columns, lot, place, other):
    """Whether one of the languages with these indices parts two places."""
    return any([columns[place][index] != columns[other][index] for index in lot])


def pairs_not_parted(columns, lot):
    """The ascending list of the pairs of unlike places that no language of a lot parts."""
    return [
        (place, other)
        for place, other in pairs_of_places(len(columns))
        if columns[place] != columns[other] and not are_parted(columns, lot, place, other)
    ]


def fewest_languages(sheet):
    """The Telling of the first set of languages that tells the sheet, with the least pairs."""
    need_whole(sheet, "sheet")
    columns = columns_of(sheet)
    pairs = []
    for lot in lots_below(len(sheet.languages)):
        missed = pairs_not_parted(columns, lot)
        if len(missed) == 0:
            return Telling([sheet.languages[index] for index in lot], pairs)
        pairs.append(missed[0])
    return None


def is_sign(value):
    """Whether a value is a sound or `-`."""
    return is_cell(value) and len(value) == 1


def is_number_word(value):
    """Whether a value is a list of one or more integers from 0 on."""
    return is_numbers(value) and len(value) > 0 and min(value) >= 0


def need_number_words(words):
    """BadSheet for what is no list of one or more words of numbers."""
    if not is_list(words) or len(words) == 0 or not all([is_number_word(word) for word in words]):
        raise BadSheet("words")


def need_columns(columns, many):
    """BadSheet for what is no list of lists of a sign for each of so many languages."""
    if not is_list(columns):
        raise BadSheet("columns")
    for column in columns:
        if not is_list(column) or len(column) != many or not all([is_sign(sign) for sign in column]):
            raise BadSheet("columns")


def sheet_from(languages, words, columns):
    """The Sheet of words of a mother, told by the numbers of the column rows of their sounds."""
    need_names(languages)
    need_once(languages)
    need_number_words(words)
    need_columns(columns, len(languages))
    if any([max(word) >= len(columns) for word in words]):
        raise Misfit("columns")
    rows = [
        ["".join([columns[sound][index] for sound in word]) for index in range(len(languages))]
        for word in words
    ]
    return Sheet(languages, rows)


def least_joined(dyeing, other):
    """The least pair of places that are one sound of a dyeing, but not of another one; None without any."""
    for place, beside in pairs_of_places(len(dyeing)):
        if dyeing[place] == dyeing[beside] and other[place] != other[beside]:
            return place, beside
    return None


def standing(one, other):
    """The word for how two sheets stand, by the pairs that only the second, only the first joins."""
    if one is None:
        return "alike" if other is None else "coarser"
    return "finer" if other is None else "across"


def compared(sheet, other):
    """How the zero mothers of two sheets stand to one another, with the least pairs that show it."""
    need_whole(sheet, "sheet")
    need_whole(other, "other")
    if sheet.places != other.places:
        raise Misfit("places")
    mine = zero_of(columns_of(sheet))
    its = zero_of(columns_of(other))
    one = least_joined(its, mine)
    beside = least_joined(mine, its)
    return standing(one, beside), one, beside
