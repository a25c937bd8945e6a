"""Which values are right papers of strangers, of layers, and of rules within one language."""

from foretongue.check_alike import is_word_of
from foretongue.check_mothers import is_mother_of_rows
from foretongue.checks import is_list, is_within
from foretongue.courses import long_outcome
from foretongue.grounds import Grounds
from foretongue.lots import is_lot, lots_below
from foretongue.mothers import need_told
from foretongue.papers import is_called
from foretongue.right_trees import is_right_tree
from foretongue.rules import Ruled, Split, need_ruled, told_split
from foretongue.strangers import Layers, NoLayers, Strangers, has_lot_within, lots_with_first, other_rows
from foretongue.within import Against, OneRule, need_two_sounds, need_unlike, need_wide, surroundings_at, told_rule


def is_bar(sheet, width, most, value):
    """Whether a value is a pair of a lot of rows and a right refusing tree of the sheet of these."""
    if not is_list(value) or len(value) != 2:
        return False
    rows, tree = value
    # No rows have the mother (): there is no tree that refuses it.
    if not is_lot(rows, len(sheet.rows)) or len(rows) == 0:
        return False
    return is_right_tree(Grounds(sheet.of_rows(rows), width), most, [], tree)


def are_bars(sheet, width, most, value):
    """Whether a value is a list of pairs of a lot of rows and a right refusing tree."""
    return is_list(value) and all([is_bar(sheet, width, most, bar) for bar in value])


def lots_of_bars(bars):
    """The list of the lots of some bars."""
    return [rows for rows, _ in bars]


def is_strangers(sheet, width, most, value):
    """Whether a Strangers has a lot of rows, a mother of the others, and bars that no fewer rows strike."""
    if not is_lot(value.rows, len(sheet.rows)):
        return False
    if not is_mother_of_rows(sheet, width, most, other_rows(sheet, value.rows), value.dyeing):
        return False
    if not are_bars(sheet, width, most, value.bars):
        return False
    lots = lots_of_bars(value.bars)
    fewer = [rows for rows in lots_below(len(sheet.rows)) if len(rows) < len(value.rows)]
    return all([has_lot_within(lots, other_rows(sheet, rows)) for rows in fewer])


def shows_strangers(sheet, width, most, value):
    """Whether a value is a Strangers of any fewest rows, with any mother of the others and any bars that do."""
    need_told(sheet, width, most)
    if not isinstance(value, Strangers) or not is_called(value, "Strangers"):
        return False
    return is_strangers(sheet, width, most, value)


def are_layers(sheet, width, most, value):
    """Whether a Layers has a lot with row 0, a mother of it, and one of the others."""
    if not is_lot(value.rows, len(sheet.rows)) or 0 not in value.rows:
        return False
    if not is_mother_of_rows(sheet, width, most, value.rows, value.one):
        return False
    return is_mother_of_rows(sheet, width, most, other_rows(sheet, value.rows), value.other)


def part_no_layers(sheet, lots):
    """Whether each parting of the rows in two has one of some lots within one of the two."""
    return all([
        has_lot_within(lots, rows) or has_lot_within(lots, other_rows(sheet, rows))
        for rows in lots_with_first(sheet)
    ])


def shows_layers(sheet, width, most, value):
    """Whether a value is a Layers of any lot with row 0, or a NoLayers with any bars that do."""
    need_told(sheet, width, most)
    if isinstance(value, Layers) and is_called(value, "Layers"):
        return are_layers(sheet, width, most, value)
    if isinstance(value, NoLayers) and is_called(value, "NoLayers"):
        return are_bars(sheet, width, most, value.bars) and part_no_layers(sheet, lots_of_bars(value.bars))
    return False


def is_place_in(words, value):
    """Whether a value is a place in some words, the number of the word ahead."""
    if not is_list(value) or len(value) != 2 or not is_within(value[0], 0, len(words) - 1):
        return False
    return is_within(value[1], 0, len(words[value[0]]) - 1)


def is_against(words, sounds, wide, one, other):
    """Whether two values are places of two sounds in some words, with equal surroundings."""
    if not is_place_in(words, one) or not is_place_in(words, other):
        return False
    mine = words[one[0]]
    its = words[other[0]]
    if (mine[one[1]], its[other[1]]) != sounds:
        return False
    return surroundings_at(mine, one[1], wide) == surroundings_at(its, other[1], wide)


def shows_rule(words, sound, other, wide, value):
    """Whether a value is the OneRule of two sounds in some words, or an Against of any such two places."""
    need_two_sounds(words, sound, other)
    need_wide(wide)
    need_unlike(sound, other)
    if isinstance(value, OneRule) and is_called(value, "OneRule"):
        return value == told_rule(words, sound, other, wide)
    if isinstance(value, Against) and is_called(value, "Against"):
        return is_against(words, (sound, other), wide, value.one, value.other)
    return False


def has_word_of(stock, value):
    """Whether a value is a pair of a word of the stock and something."""
    return is_list(value) and len(value) == 2 and is_word_of(value[0], stock)


def is_split(course, stock, sounds, value):
    """Whether a Split has two words of the stock whose outcomes have the sounds in equal surroundings."""
    if not has_word_of(stock, value.one) or not has_word_of(stock, value.other):
        return False
    outcomes = [long_outcome(course, value.one[0]), long_outcome(course, value.other[0])]
    return is_against(outcomes, sounds, 1, (0, value.one[1]), (1, value.other[1]))


def shows_split(course, stock, sound, other, value):
    """Whether a value is the Ruled of two sounds in all words of a stock, or a Split of any words of it."""
    need_ruled(course, stock, sound, other)
    if isinstance(value, Ruled) and is_called(value, "Ruled"):
        return value == told_split(course, stock, sound, other)
    if isinstance(value, Split) and is_called(value, "Split"):
        return is_split(course, stock, (sound, other), value)
    return False
