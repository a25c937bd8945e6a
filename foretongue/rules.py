"""Rules of two sounds that shifts make, and unmake, in some words or in all words of a stock."""

from foretongue.courses import done_line, need_course, need_no_fall
from foretongue.errors import TooMany
from foretongue.needs import need_sound, need_stock
from foretongue.papers import Denial, Paper
from foretongue.shifts import line_of, shifted
from foretongue.stocks import list_words, longer_words, many_words
from foretongue.within import need_few_words, need_two_sounds, need_unlike, surroundings_at

MOST_SHIFTS = 3
MOST_OF_STOCK = 4000


class Ruled(Paper):
    """The rows (left, right, sound) of two sounds that are by one rule."""

    def __init__(self, rows):
        super().__init__("ruled", rows)
        self.rows = self.parts[0]


class Split(Denial):
    """A word and a place for each of two sounds, which have equal surroundings there."""

    def __init__(self, one, other):
        super().__init__("split", one, other)
        self.one, self.other = self.parts


def sides_in(line, sound):
    """The dict of the surroundings of a sound in a line of words, each the string of the two signs."""
    return {line[at - 1] + line[at + 1]: True for at, sign in enumerate(line) if sign == sound}


def standing_rule(line, sound, other):
    """Whether two sounds are by one rule in a line of words, None if one stands nowhere."""
    if sound not in line or other not in line:
        return None
    its = sides_in(line, other)
    return not any([sides in its for sides in sides_in(line, sound)])


def rules_behind(course, words, sound, other):
    """The tuple of whether two sounds are by one rule behind none of the shifts, the first, and so on."""
    line = line_of(words)
    told = [standing_rule(line, sound, other)]
    for shift in course.shifts:
        line = shifted(shift, line)
        told.append(standing_rule(line, sound, other))
    return tuple(told)


def rule_history(course, words, sound, other):
    """Whether two sounds are by one rule in some words behind none of the shifts, the first, and so on."""
    need_course(course, "course")
    need_two_sounds(words, sound, other)
    need_unlike(sound, other)
    need_few_words(words)
    return rules_behind(course, words, sound, other)


def widest_rule(course):
    """How many sounds a word has at most that is wanted to know all surroundings in the outcomes."""
    return 2 * len(course) + 3


def need_ruled(course, stock, sound, other):
    """The errors of two sounds in the outcomes of all words of a stock."""
    need_course(course, "course")
    need_stock(stock, "stock")
    need_sound(sound, "sound")
    need_sound(other, "other")
    need_unlike(sound, other)
    need_no_fall([course])
    if len(course) > MOST_SHIFTS:
        raise TooMany("shifts", MOST_SHIFTS)
    if many_words(stock, widest_rule(course)) > MOST_OF_STOCK:
        raise TooMany("words", MOST_OF_STOCK)


def keep_least(found, course, words):
    """Keeps for each sound in found and all its surroundings in outcomes the least word and its least place."""
    outcomes = done_line(course, line_of(words))[1:-1].split("#")
    for word, outcome in zip(words, outcomes):
        for place, sign in enumerate(outcome):
            if sign in found:
                around = surroundings_at(outcome, place, 1)
                kept = found[sign].get(around, (word, place))
                found[sign][around] = min(kept, (word, place))


def least_split(mine, its):
    """The Split of the least of the couples of words with equal surroundings, None without any."""
    couples = [(mine[around], its[around]) for around in mine if around in its]
    if len(couples) == 0:
        return None
    word, beside, place, at = min([(one[0], other[0], one[1], other[1]) for one, other in couples])
    return Split((word, place), (beside, at))


def rows_of_sounds(found):
    """The ascending list of the rows (left, right, sound) of some sounds, each with its surroundings."""
    return sorted([(left, right, sound) for sound in found for left, right in found[sound]])


def told_split(course, stock, sound, other):
    """The Ruled of two sounds in the outcomes of all words of a stock, or the Split of the least words."""
    found = {sound: {}, other: {}}
    words = [""]
    # Length by length: so the longer word of a couple has as few sounds as can be.
    for _ in range(widest_rule(course)):
        words = longer_words(words, stock)
        keep_least(found, course, words)
        split = least_split(found[sound], found[other])
        if split is not None:
            return split
    return Ruled(rows_of_sounds(found))


def splits(course, stock, sound, other):
    """The Ruled of two sounds in the outcomes of all words of a stock, or the Split of the least words."""
    need_ruled(course, stock, sound, other)
    return told_split(course, stock, sound, other)


def split_history(course, stock, sound, other):
    """Whether two sounds are by one rule in all words of a stock behind none of the shifts, and so on."""
    need_ruled(course, stock, sound, other)
    return rules_behind(course, list_words(stock, widest_rule(course)), sound, other)
