"""Which sounds of one language are one by rule."""

from foretongue.checks import is_list, is_long_word, is_rising, is_word
from foretongue.columns import pairs_of_places
from foretongue.errors import BadStock, BadWord, Impossible, TooMany, Twice
from foretongue.needs import need_number, need_sound, need_word
from foretongue.papers import Denial, Paper

MOST_WORDS = 12
MOST_SOUNDS = 6
EDGE = "#"


class OneRule(Paper):
    """The surroundings of one sound, and those of the other: none are in both."""

    def __init__(self, one, other):
        super().__init__("onerule", one, other)
        self.one, self.other = self.parts


class Against(Denial):
    """A place of one sound, and a place of the other, with equal surroundings."""

    def __init__(self, one, other):
        super().__init__("against", one, other)
        self.one, self.other = self.parts


def need_own_words(words):
    """BadWord for what is no list of one or more words."""
    if not is_list(words) or len(words) == 0 or not all([is_word(word) for word in words]):
        raise BadWord("words")


def need_wide(wide):
    """BadNumber for what is none of 1 and 2."""
    need_number(wide, "wide", 1, 2)


def need_few_words(words):
    """TooMany for more words than are asked about."""
    if len(words) > MOST_WORDS:
        raise TooMany("words", MOST_WORDS)


def need_two_sounds(words, sound, other):
    """The errors of words and two sounds, which may be equal."""
    need_own_words(words)
    need_sound(sound, "sound")
    need_sound(other, "other")


def need_unlike(sound, other):
    """Twice for equal sounds."""
    if sound == other:
        raise Twice(other)


def surroundings_at(word, place, wide):
    """The pair of the signs ahead of a place and of those behind it, with `#` beyond the word."""
    line = EDGE * wide + word + EDGE * wide
    at = place + wide
    return line[place:at], line[at + 1:at + 1 + wide]


def places_by_sound(words, wide):
    """For each sound in some words the dict of its surroundings, each with the first place that has them."""
    found = {}
    for number, word in enumerate(words):
        for place, sound in enumerate(word):
            around = surroundings_at(word, place, wide)
            found.setdefault(sound, {}).setdefault(around, (number, place))
    return found


def least_against(places, sound, other):
    """The Against of the least places of two sounds with equal surroundings, None if they are by one rule."""
    mine = places.get(sound, {})
    its = places.get(other, {})
    pairs = [(mine[around], its[around]) for around in mine if around in its]
    if len(pairs) == 0:
        return None
    return Against(min(pairs)[0], min(pairs)[1])


def told_rule(words, sound, other, wide):
    """The OneRule of two sounds, or the Against of their least places."""
    places = places_by_sound(words, wide)
    against = least_against(places, sound, other)
    if against is not None:
        return against
    return OneRule(sorted(places.get(sound, {})), sorted(places.get(other, {})))


def by_one_rule(words, sound, other, wide=1):
    """The OneRule of two sounds in some words, or the Against of their least places."""
    need_two_sounds(words, sound, other)
    need_wide(wide)
    need_unlike(sound, other)
    need_few_words(words)
    return told_rule(words, sound, other, wide)


def pairs_among(values):
    """The list of the pairs of two of some values, as they stand; ascending if these ascend."""
    return [(values[at], values[beside]) for at, beside in pairs_of_places(len(values))]


def is_lot_by_rule(lot, against):
    """Whether each two sounds of a lot are by one rule; against has the pairs that are not."""
    return not any([pair in against for pair in pairs_among(lot)])


def partings_of(sounds, against):
    """All partings of some ascending sounds, each a list of lots by their first sounds."""
    found = [[]]
    for sound in sounds:
        longer = []
        for lots in found:
            longer.append([*lots, sound])
            for at, lot in enumerate(lots):
                if is_lot_by_rule(lot + sound, against):
                    longer.append([*lots[:at], lot + sound, *lots[at + 1:]])
        found = longer
    return found


def is_coarsest_parting(lots, against):
    """Whether no two lots of a parting can be joined."""
    return not any([is_lot_by_rule(sorted(one + other), against) for one, other in pairs_among(lots)])


def coarsest(words, wide=1):
    """The tuple of all coarsest partings of some words, fewer lots first, then as tuples."""
    need_own_words(words)
    need_wide(wide)
    need_few_words(words)
    places = places_by_sound(words, wide)
    sounds = sorted(places)
    if len(sounds) > MOST_SOUNDS:
        raise TooMany("sounds", MOST_SOUNDS)
    pairs = pairs_among(sounds)
    against = {pair: True for pair in pairs if least_against(places, pair[0], pair[1]) is not None}
    told = [tuple(lots) for lots in partings_of(sounds, against) if is_coarsest_parting(lots, against)]
    return tuple([lots for _, lots in sorted([(len(lots), lots) for lots in told])])


def rule_table(words, lot, wide=1):
    """The ascending tuple of the rows (left, right, sound) of a lot of sounds that are by one rule."""
    need_own_words(words)
    if not is_long_word(lot) or lot == "" or not is_rising(lot):
        raise BadStock("lot")
    need_wide(wide)
    need_few_words(words)
    places = places_by_sound(words, wide)
    for sound, other in pairs_among(lot):
        against = least_against(places, sound, other)
        if against is not None:
            raise Impossible(against)
    return tuple(sorted([(left, right, sound) for sound in lot for left, right in places.get(sound, {})]))


def parted_by(words, word, wide=1):
    """The ascending triples of two sounds that a word more parts, and the Against of them."""
    need_own_words(words)
    need_word(word, "word")
    need_wide(wide)
    need_few_words(words)
    places = places_by_sound(words, wide)
    longer = places_by_sound([*words, word], wide)
    found = []
    for sound, other in pairs_among(sorted(longer)):
        against = least_against(longer, sound, other)
        if against is not None and least_against(places, sound, other) is None:
            found.append((sound, other, against))
    return tuple(found)
