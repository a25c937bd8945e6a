"""Mothers: dyeings of a whole sheet that no two places bar."""

from foretongue.columns import columns_of, pairs_of_places
from foretongue.dyeings import many_sounds, need_width
from foretongue.errors import BadNumber, TooMany
from foretongue.grounds import Grounds, least_barring
from foretongue.needs import need_number
from foretongue.sheets import need_whole
from foretongue.walks import first_mothers
from foretongue.zero import zero_of

MOST_SOUNDS = 8
MOST_PLACES = 8
MOST_MOTHERS = 400
# So many dyeings of eight places there are.
EVERY = 4140


def need_few_places(sheet):
    """TooMany for more places than can be searched."""
    if len(sheet.places) > MOST_PLACES:
        raise TooMany("places", MOST_PLACES)


def need_told(sheet, width, most):
    """The errors of a whole sheet, a width and a greatest size."""
    need_whole(sheet, "sheet")
    need_width(width)
    need_number(most, "most", 1, MOST_SOUNDS)


def need_asked(sheet, width, most):
    """The errors of what is asked of the mothers of a sheet."""
    need_told(sheet, width, most)
    need_few_places(sheet)


def need_few(mothers_found):
    """TooMany for more mothers than are listed."""
    if len(mothers_found) > MOST_MOTHERS:
        raise TooMany("mothers", MOST_MOTHERS)


def mothers(sheet, width, most):
    """The ascending tuple of all mothers of at most so many sounds."""
    need_asked(sheet, width, most)
    found = first_mothers(Grounds(sheet, width), most, MOST_MOTHERS + 1)
    need_few(found)
    return tuple(found)


def many_mothers(sheet, width, most):
    """How many mothers of at most so many sounds there are."""
    need_asked(sheet, width, most)
    return len(first_mothers(Grounds(sheet, width), most, EVERY))


def mother_at(sheet, width, most, number):
    """The mother of at most so many sounds with a number, ascending from 0."""
    need_asked(sheet, width, most)
    need_number(number, "number", 0, EVERY - 1)
    found = first_mothers(Grounds(sheet, width), most, number + 1)
    if len(found) <= number:
        raise BadNumber("number")
    return found[number]


def is_coarsest(grounds, dyeing):
    """Whether a mother is none any more, whichever two of its sounds are joined."""
    for sound, other in pairs_of_places(many_sounds(dyeing)):
        if least_barring(grounds, [sound if number == other else number for number in dyeing]) is None:
            return False
    return True


def coarsest_mothers(sheet, width):
    """The ascending tuple of all coarsest mothers."""
    need_whole(sheet, "sheet")
    need_width(width)
    need_few_places(sheet)
    if width == 0:
        return (zero_of(columns_of(sheet)),)
    grounds = Grounds(sheet, width)
    found = [dyeing for dyeing in first_mothers(grounds, MOST_PLACES, EVERY) if is_coarsest(grounds, dyeing)]
    need_few(found)
    return tuple(found)
