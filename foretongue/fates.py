"""What becomes of the distinction of two sounds: gone, kept or moved."""

from foretongue.courses import done_line, long_outcome, need_course, need_no_fall
from foretongue.errors import Misfit
from foretongue.needs import need_long_word, need_sound, need_stock
from foretongue.papers import Paper
from foretongue.rooms import Rooms, need_few_rooms
from foretongue.searches import least_couples
from foretongue.shifts import line_of
from foretongue.stocks import list_words

GONE = "gone"
KEPT = "kept"
MOVED = "moved"
# How many sounds are read behind the place, for a search that has not come to it.
AHEAD = -1


class Fate(Paper):
    """For each sort the least pair of words whose distinction is so, None if there is none."""

    def __init__(self, gone, kept, moved):
        super().__init__("fate", gone, kept, moved)
        self.gone, self.kept, self.moved = self.parts


def need_distinction(course, stock, sound, other):
    """The errors of two unlike sounds of a stock."""
    need_course(course, "course")
    need_stock(stock, "stock")
    need_sound(sound, "sound")
    need_sound(other, "other")
    need_no_fall([course])
    if sound == other or sound not in stock or other not in stock:
        raise Misfit("sounds")
    need_few_rooms(course, stock)


def unlike_places(one, other):
    """The places at which two equally long words are unlike."""
    return [place for place, (sound, beside) in enumerate(zip(one, other)) if sound != beside]


def sort_with(sort, is_here):
    """The sort with one more place at which the outcomes are unlike, the place itself or another."""
    if is_here or sort == KEPT:
        return KEPT
    return MOVED


class Distinction:
    """Two unlike sounds in words that are alike elsewhere, read through the rooms of a stock.

    A node is the rooms of the two words, how many sounds are read behind the place, and the
    sort by what is settled.
    """

    def __init__(self, course, stock, sound, other):
        self.rooms = Rooms(course, stock)
        self.reach = len(course)
        self.sound = sound
        self.other = other

    def steps_to_place(self, room):
        """The steps ahead of the place: a sound in both words, or the place itself."""
        steps = []
        for sound, follow, settled in self.rooms.ways[room]:
            steps.append((sound, sound, (follow, follow, AHEAD, GONE)))
            for beside, behind, its in self.rooms.ways[room]:
                if sound == self.sound and beside == self.other:
                    sort = GONE if settled == its else sort_with(GONE, self.reach == 0)
                    steps.append((sound, beside, (follow, behind, 0, sort)))
        return steps

    def steps_from(self, node):
        """The steps of the search; none where nothing can change any more."""
        room, other, past, sort = node
        if past == AHEAD:
            return self.steps_to_place(room)
        if room == other or sort == KEPT:
            return []
        steps = []
        for (sound, follow, settled), (_, behind, its) in zip(self.rooms.ways[room], self.rooms.ways[other]):
            found = sort if settled == its else sort_with(sort, past + 1 == self.reach)
            steps.append((sound, sound, (follow, behind, past + 1, found)))
        return steps

    def sort_of(self, node):
        """What the distinction is if the words end at a node, None if they have no place yet."""
        room, other, past, sort = node
        if past == AHEAD:
            return None
        rest = self.rooms.rests[room]
        for place in unlike_places(rest, self.rooms.rests[other]):
            sort = sort_with(sort, len(rest) - 1 - place == past)
        return sort

    def least(self):
        """For each sort that there is the least pair."""
        start = (self.rooms.first, self.rooms.first, AHEAD, GONE)
        return least_couples(
            start,
            lambda node: self.steps_from(node),
            lambda node: self.sort_of(node),
            3,
        )


def fate(course, stock, sound, other):
    """The Fate of two unlike sounds of the stock."""
    need_distinction(course, stock, sound, other)
    found = Distinction(course, stock, sound, other).least()
    return Fate(found.get(GONE), found.get(KEPT), found.get(MOVED))


def bearers(course, stock, sound, other):
    """The ascending tuple of all bearers of two unlike sounds of the stock."""
    need_distinction(course, stock, sound, other)
    words = list_words(stock, 2 * len(course) + 1)
    line = done_line(course, line_of(words))
    outcomes = {word: outcome for word, outcome in zip(words, line[1:-1].split("#"))}
    found = {}
    for word in words:
        for place, sign in enumerate(word):
            if sign == sound:
                mine = outcomes[word]
                its = outcomes[word[:place] + other + word[place + 1:]]
                for at in unlike_places(mine, its):
                    found[(at - place, mine[at], its[at])] = True
    return tuple(sorted(found))


def sort_of_pair(course, one, other):
    """The sort of the distinction of two long words, None if they are no pair."""
    if len(one) != len(other) or len(unlike_places(one, other)) != 1:
        return None
    place = unlike_places(one, other)[0]
    unlike = unlike_places(long_outcome(course, one), long_outcome(course, other))
    if len(unlike) == 0:
        return GONE
    return KEPT if place in unlike else MOVED


def fate_at(course, one, other):
    """What the distinction of two long words that are a pair is: gone, kept or moved."""
    need_course(course, "course")
    need_long_word(one, "one")
    need_long_word(other, "other")
    need_no_fall([course])
    sort = sort_of_pair(course, one, other)
    if sort is None:
        raise Misfit("sounds")
    return sort
