"""Dyeings: which places of a sheet are of one sound of the mother."""

from foretongue.checks import is_list, is_numbers, is_within
from foretongue.columns import columns_of
from foretongue.errors import BadDyeing, BadNumber, Misfit, Twice
from foretongue.grounds import Grounds, least_barring, neighbours_of
from foretongue.sheets import need_different_rows, need_language, need_whole
from foretongue.walks import numbered

MOST_PLACES = 12
# What stands in a table for a neighbour that is not there.
NO_SOUND = -1


def is_dyeing(value):
    """Whether a value is a dyeing, a list or a tuple, of at most 12 places."""
    if not is_list(value) or len(value) > MOST_PLACES:
        return False
    many = 0
    for sound in value:
        if not is_within(sound, 0, many):
            return False
        many = max(many, sound + 1)
    return True


def need_dyeing(value, part):
    """BadDyeing for what is no dyeing."""
    if not is_dyeing(value):
        raise BadDyeing(part)


def need_width(width):
    """BadNumber for what is none of the two widths."""
    if not is_within(width, 0, 1):
        raise BadNumber("width")


def need_as_many(sheet, dyeing):
    """Misfit for a dyeing of another number of places than the sheet has."""
    if len(dyeing) != len(sheet.places):
        raise Misfit("places")


def need_dyed_sheet(sheet, width, dyeing):
    """The errors of a whole sheet, a width, and a dyeing of its places."""
    need_whole(sheet, "sheet")
    need_width(width)
    need_dyeing(dyeing, "dyeing")
    need_as_many(sheet, dyeing)


def need_mother(sheet, width, dyeing):
    """Misfit for a dyeing of the sheet's places that is no mother of this width."""
    if least_barring(Grounds(sheet, width), dyeing) is not None:
        raise Misfit("dyeing")


def dyeing_of(numbers):
    """The dyeing in which two places are alike where some integers are equal."""
    if not is_numbers(numbers) or len(numbers) > MOST_PLACES:
        raise BadDyeing("numbers")
    return numbered(numbers)


def many_sounds(dyeing):
    """How many sounds a dyeing has."""
    return max(dyeing, default=NO_SOUND) + 1


def size_of(dyeing):
    """How many sounds a dyeing has."""
    need_dyeing(dyeing, "dyeing")
    return many_sounds(dyeing)


def lots_of(dyeing):
    """For each sound of a dyeing the ascending tuple of its places."""
    need_dyeing(dyeing, "dyeing")
    lots = [[] for _ in range(many_sounds(dyeing))]
    for place, sound in enumerate(dyeing):
        lots[sound].append(place)
    return tuple([tuple(lot) for lot in lots])


def refines(one, other):
    """Whether each two places that are alike in one dyeing are alike in the other."""
    need_dyeing(one, "one")
    need_dyeing(other, "other")
    if len(one) != len(other):
        raise Misfit("places")
    return all([other[place] == other[one.index(sound)] for place, sound in enumerate(one)])


def made_one(dyeing, sound, other):
    """The dyeing with two sounds joined."""
    return numbered([other if number == sound else number for number in dyeing])


def joined(dyeing, sound, other):
    """The dyeing with two different sounds of it joined."""
    need_dyeing(dyeing, "dyeing")
    for number, part in [(sound, "sound"), (other, "other")]:
        if not is_within(number, 0, many_sounds(dyeing) - 1):
            raise BadNumber(part)
    if sound == other:
        raise Twice(other)
    return made_one(dyeing, sound, other)


def why_no_mother(sheet, width, dyeing):
    """The least pair of places that bar a dyeing of the sheet, None for a mother."""
    need_dyed_sheet(sheet, width, dyeing)
    return least_barring(Grounds(sheet, width), dyeing)


def is_mother(sheet, width, dyeing):
    """Whether a dyeing of the sheet is a mother of this width."""
    return why_no_mother(sheet, width, dyeing) is None


def on_rows(sheet, rows, dyeing):
    """The dyeing that a dyeing of the sheet is on these rows alone, in the order of the sheet."""
    return numbered([sound for (row, _), sound in zip(sheet.places, dyeing) if row in rows])


def dyeing_of_rows(sheet, rows, dyeing):
    """The dyeing that a dyeing of the sheet is on these rows alone, told in any order, perhaps none."""
    need_whole(sheet, "sheet")
    if not is_numbers(rows):
        raise BadNumber("rows")
    need_different_rows(sheet, rows)
    need_dyeing(dyeing, "dyeing")
    need_as_many(sheet, dyeing)
    return on_rows(sheet, rows, dyeing)


def surroundings_of(sheet, dyeing):
    """For each place of a sheet the pair of the sounds just ahead and just behind it."""
    return [
        (NO_SOUND if ahead is None else dyeing[ahead], NO_SOUND if behind is None else dyeing[behind])
        for ahead, behind in neighbours_of(sheet)
    ]


def table_of(sheet, width, dyeing, language):
    """The ascending rows of a language's table: which sign each sound is, of width 1 in its surroundings."""
    need_whole(sheet, "sheet")
    need_width(width)
    need_dyeing(dyeing, "dyeing")
    need_language(sheet, language)
    need_as_many(sheet, dyeing)
    need_mother(sheet, width, dyeing)
    index = sheet.languages.index(language)
    signs = [column[index] for column in columns_of(sheet)]
    if width == 0:
        return tuple(sorted(set(list(zip(dyeing, signs)))))
    rows = zip(dyeing, surroundings_of(sheet, dyeing), signs)
    return tuple(sorted({(sound, ahead, behind, sign): True for sound, (ahead, behind), sign in rows}))
