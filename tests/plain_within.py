"""Plain readings of what the document says of rules within one language, place by place."""

from itertools import combinations


def around(word, place, wide):
    """The surroundings of a place: so many signs ahead and behind, `#` beyond the word."""
    ahead = "".join(word[at] if at >= 0 else "#" for at in range(place - wide, place))
    behind = "".join(word[at] if at < len(word) else "#" for at in range(place + 1, place + 1 + wide))
    return ahead, behind


def places_in(words, sound):
    return [(number, place) for number, word in enumerate(words) for place, sign in enumerate(word) if sign == sound]


def against_in(words, sound, other, wide=1):
    """All pairs of places of two sounds with equal surroundings, ascending."""
    return sorted((mine, its) for mine in places_in(words, sound) for its in places_in(words, other)
                  if around(words[mine[0]], mine[1], wide) == around(words[its[0]], its[1], wide))


def surroundings_of(words, sound, wide):
    return tuple(sorted({around(words[number], place, wide) for number, place in places_in(words, sound)}))


def sounds_in(words):
    return sorted(set("".join(words)))


def ways_to_share_out(sounds):
    """All ways to share some sounds out into lots."""
    if not sounds:
        return [[]]
    first, *behind = sounds
    found = []
    for lots in ways_to_share_out(behind):
        found.append([[first], *lots])
        found += [lots[:at] + [[first, *lots[at]]] + lots[at + 1:] for at in range(len(lots))]
    return found


def is_one_lot(words, lot, wide):
    return not any(against_in(words, one, other, wide) for one, other in combinations(lot, 2))


def plain_coarsest(words, wide):
    found = []
    for lots in ways_to_share_out(sounds_in(words)):
        if all(is_one_lot(words, lot, wide) for lot in lots):
            if not any(is_one_lot(words, one + other, wide) for one, other in combinations(lots, 2)):
                found.append(tuple(sorted("".join(sorted(lot)) for lot in lots)))
    return tuple(sorted(found, key=lambda lots: (len(lots), lots)))


def some_words(chance, letters, most, longest=4):
    return ["".join(chance.choices(letters, k=chance.randrange(longest + 1))) for _ in range(chance.randrange(1, most + 1))]
