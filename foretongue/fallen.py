"""Which words fall together by a course."""

from foretongue.checks import of_stock
from foretongue.courses import Course, done_line, long_outcome, need_course, need_no_fall
from foretongue.errors import TooMany
from foretongue.needs import need_number, need_stock, need_word
from foretongue.papers import Denial, Paper
from foretongue.rooms import Rooms, need_rooms
from foretongue.searches import least_couples
from foretongue.shifts import line_of, shifted
from foretongue.stocks import list_words

LONGEST_OUTCOME = 6
LONGEST_IN_LOTS = 5
TOGETHER = "together"


class LeadsBack(Paper):
    """The course leads back: a shut list of couples of rooms."""

    def __init__(self, couples):
        super().__init__("leadsback", couples)
        self.couples = self.parts[0]


class Fallen(Denial):
    """Two long words that fall together, and what they become."""

    def __init__(self, one, other, outcome):
        super().__init__("fallen", one, other, outcome)
        self.one, self.other, self.outcome = self.parts


def steps_together(rooms, node):
    """The steps of a search for words that fall together.

    A node is the room of the one word, that of the other, and whether they are unlike yet.
    Where they part the lesser sound goes to the one, so this is the lesser word.
    """
    room, other, is_parted = node
    steps = []
    for sound, follow, settled in rooms.ways[room]:
        for beside, behind, its in rooms.ways[other]:
            if settled == its and (is_parted or sound < beside):
                steps.append((sound, beside, (follow, behind, True)))
        if not is_parted:
            steps.append((sound, sound, (follow, follow, False)))
    return steps


def sort_together(rooms, node):
    """What is sought, for a node at which the words fall together, otherwise None."""
    room, other, is_parted = node
    if is_parted and rooms.is_end((room, other)):
        return TOGETHER
    return None


def least_fallen(rooms):
    """The least couple of words that fall together, None if there is none."""
    start = (rooms.first, rooms.first, False)
    found = least_couples(
        start,
        lambda node: steps_together(rooms, node),
        lambda node: sort_together(rooms, node),
        1,
    )
    return found.get(TOGETHER)


def leads_back(rooms):
    """Whether no couple that can be come to ends alike."""
    return not any([rooms.is_end(couple) for couple in rooms.reached()])


def fallen(course, stock):
    """The Fallen of the least words that fall together, or the LeadsBack of all couples met."""
    need_course(course, "course")
    need_stock(stock, "stock")
    need_rooms(course, stock)
    rooms = Rooms(course, stock)
    if leads_back(rooms):
        return LeadsBack(rooms.reached())
    one, other = least_fallen(rooms)
    return Fallen(one, other, long_outcome(course, one))


def falls_at(course, stock):
    """The number of the shift by which the first words fall together, None if none do."""
    need_course(course, "course")
    need_stock(stock, "stock")
    need_rooms(course, stock)
    for number in range(len(course)):
        if not leads_back(Rooms(Course(course.shifts[:number + 1]), stock)):
            return number
    return None


def words_ahead(shift, outcome):
    """All words of which a shift makes this outcome: where its new sound stands, its old one may have."""
    words = [""]
    for sound in outcome:
        choices = [sound, shift.old] if sound == shift.new else [sound]
        words = [word + choice for word in words for choice in choices]
    return [word for word in words if shifted(shift, line_of([word]))[1:-1] == outcome]


def mothers_of(course, stock, outcome):
    """The ascending tuple of all words of the stock with this outcome."""
    need_course(course, "course")
    need_stock(stock, "stock")
    need_word(outcome, "outcome")
    need_no_fall([course])
    if len(outcome) > LONGEST_OUTCOME:
        raise TooMany("sounds", LONGEST_OUTCOME)
    words = [outcome]
    for shift in course.shifts[::-1]:
        words = [ahead for word in words for ahead in words_ahead(shift, word)]
    return tuple(sorted([word for word in words if of_stock(word, stock)]))


def fallen_lots(course, stock, most):
    """The lots of the words of at most so many sounds that fall together, each of one outcome."""
    need_course(course, "course")
    need_stock(stock, "stock")
    need_number(most, "most", 0, LONGEST_IN_LOTS)
    need_no_fall([course])
    words = list_words(stock, most)
    lots = {}
    for word, outcome in zip(words, done_line(course, line_of(words))[1:-1].split("#")):
        lots.setdefault(outcome, []).append(word)
    return tuple([tuple(lot) for lot in list(lots.values()) if len(lot) > 1])
