"""Rooms: what must be kept of a word to know the outcome of whatever stands behind it."""

from foretongue.checks import is_list, is_long_word, of_stock
from foretongue.courses import long_outcome, need_course, need_no_fall
from foretongue.errors import BadPairs, BadWord, TooMany
from foretongue.needs import need_sound, need_stock, need_word
from foretongue.stocks import list_words, many_of_length

MOST_ROOMS = 100


def need_rooms(course, stock):
    """The errors behind the parameters of a course and a stock whose rooms are listed."""
    need_no_fall([course])
    need_few_rooms(course, stock)


def need_few_rooms(course, stock):
    """TooMany for more words of full rooms than can be listed."""
    if many_of_length(stock, 2 * len(course)) > MOST_ROOMS:
        raise TooMany("rooms", MOST_ROOMS)


def is_room(course, value):
    """Whether a value is a room for this course, of any sounds."""
    if not isinstance(value, str):
        return False
    if value.startswith("#"):
        return is_long_word(value[1:]) and len(value) <= 2 * len(course)
    return is_long_word(value) and len(value) == 2 * len(course)


def need_room(course, value):
    """BadWord for what is no room for this course."""
    if not is_room(course, value):
        raise BadWord("room")


def sounds_of(room):
    """The sounds of a room, without the `#` that tells that there are no more."""
    return room.removeprefix("#")


def room_for(course, word):
    """The room of a word, however long."""
    kept = 2 * len(course)
    if len(word) < kept:
        return "#" + word
    return word[len(word) - kept:]


def step_from(course, room, sound):
    """The pair of the room to which a sound leads, and of what it settles.

    A room has enough sounds for this: the settled one has n behind it and, if the word has
    them, n ahead.
    """
    word = sounds_of(room) + sound
    settled = len(word) - len(course) - 1
    if settled < 0:
        return room_for(course, word), ""
    return room_for(course, word), long_outcome(course, word)[settled]


def rest_from(course, room):
    """The sounds of the outcome that are not settled if the word ends in a room."""
    outcome = long_outcome(course, sounds_of(room))
    return outcome[max(0, len(outcome) - len(course)):]


def couple_of(room, other):
    """The couple of two rooms, the lesser one first."""
    if room <= other:
        return room, other
    return other, room


class Rooms:
    """All rooms of a stock for a course, where each sound leads, and the rests."""

    def __init__(self, course, stock):
        words = list_words(stock, 2 * len(course))
        names = [room_for(course, word) for word in words]
        self.first = names[0]
        self.ways = {room: [(sound, *step_from(course, room, sound)) for sound in stock] for room in names}
        self.rests = {room: rest_from(course, room) for room in names}

    def beginning(self):
        """The ascending list of the couples that begin."""
        found = {}
        for ways in list(self.ways.values()):
            for sound, room, settled in ways:
                for unlike, other, beside in ways:
                    if sound < unlike and settled == beside:
                        found[couple_of(room, other)] = True
        return sorted(found)

    def nexts(self, couple):
        """The ascending list of the couples to which a couple steps."""
        found = {}
        for _, room, settled in self.ways[couple[0]]:
            for _, other, beside in self.ways[couple[1]]:
                if settled == beside:
                    found[couple_of(room, other)] = True
        return sorted(found)

    def is_end(self, couple):
        """Whether a couple ends alike."""
        return self.rests[couple[0]] == self.rests[couple[1]]

    def reached(self):
        """The ascending list of all couples that can be come to."""
        ahead = self.beginning()
        found = {couple: True for couple in ahead}
        while len(ahead) > 0:
            couple = ahead.pop()
            for follow in self.nexts(couple):
                if follow not in found:
                    found[follow] = True
                    ahead.append(follow)
        return sorted(found)


def is_couple(course, stock, value):
    """Whether a value is a couple of rooms of the stock, the lesser one first."""
    if not is_list(value) or len(value) != 2:
        return False
    room, other = value
    if not is_room(course, room) or not is_room(course, other):
        return False
    if not of_stock(sounds_of(room), stock) or not of_stock(sounds_of(other), stock):
        return False
    return len(room) == len(other) and room.startswith("#") == other.startswith("#") and room <= other


def need_couple(course, stock, value):
    """The errors of a couple of rooms of the stock."""
    need_course(course, "course")
    need_stock(stock, "stock")
    if not is_couple(course, stock, value):
        raise BadPairs("couple")
    need_rooms(course, stock)


def room_of(course, word):
    """The room of a word."""
    need_course(course, "course")
    need_word(word, "word")
    need_no_fall([course])
    return room_for(course, word)


def room_step(course, room, sound):
    """The pair of the room to which a sound leads, and the settled sound, an empty string for none."""
    need_course(course, "course")
    need_room(course, room)
    need_sound(sound, "sound")
    need_no_fall([course])
    return step_from(course, room, sound)


def rest_of(course, room):
    """The rest of a room."""
    need_course(course, "course")
    need_room(course, room)
    need_no_fall([course])
    return rest_from(course, room)


def first_couples(course, stock):
    """The ascending tuple of the couples that begin."""
    need_course(course, "course")
    need_stock(stock, "stock")
    need_rooms(course, stock)
    return tuple(Rooms(course, stock).beginning())


def next_couples(course, stock, couple):
    """The ascending tuple of the couples to which a couple steps."""
    need_couple(course, stock, couple)
    return tuple(Rooms(course, stock).nexts(couple))


def ends_alike(course, stock, couple):
    """Whether a couple ends alike."""
    need_couple(course, stock, couple)
    return rest_from(course, couple[0]) == rest_from(course, couple[1])
