"""Courses: shifts done one behind another."""

from foretongue.checks import is_list, is_within
from foretongue.errors import BadCourse, BadText, NoShift, TooMany
from foretongue.needs import need_sound, need_word
from foretongue.shifts import Shift, changed_places, line_of, shift_from, shifted
from foretongue.texts import item_at, items_of, need_end

MOST_SHIFTS = 6
ITEMS_OF_SHIFT = 7


def need_course(value, part):
    """BadCourse for what is no course."""
    if not isinstance(value, Course):
        raise BadCourse(part)


def need_no_fall(courses):
    """BadCourse if a sound falls by some shift of these courses."""
    if any([course.falls for course in courses]):
        raise BadCourse("falls")


def need_shift_number(course, number, many):
    """NoShift for what is none of the first so many numbers of shifts."""
    if not is_within(number, 0, many - 1):
        raise NoShift(number)


def done_line(course, line):
    """What a course makes of a line of words."""
    made = line
    for shift in course.shifts:
        made = shifted(shift, made)
    return made


def long_outcome(course, word):
    """The outcome of a word, however long."""
    return done_line(course, line_of([word]))[1:-1]


def shifts_text(shifts):
    """The items of some shifts, one behind another, in a text."""
    if len(shifts) == 0:
        return "-"
    return " ; ".join([str(shift) for shift in shifts])


class Course:
    """A course of at most six shifts, perhaps none."""

    def __init__(self, shifts):
        if not is_list(shifts) or not all([isinstance(shift, Shift) for shift in shifts]):
            raise BadCourse("shifts")
        if len(shifts) > MOST_SHIFTS:
            raise TooMany("shifts", MOST_SHIFTS)
        self.shifts = tuple(shifts)
        self.falls = any([shift.falls for shift in shifts])
        self.sounds = "".join(sorted(set("".join([shift.sounds for shift in shifts]))))

    def __len__(self):
        return len(self.shifts)

    def __eq__(self, other):
        return isinstance(other, Course) and self.shifts == other.shifts

    def __str__(self):
        return str(shifts_text(self.shifts))

    def done(self, word):
        """The outcome of a word."""
        need_word(word, "word")
        return long_outcome(self, word)

    def steps(self, word):
        """The tuple of the words behind each shift."""
        need_word(word, "word")
        line = line_of([word])
        words = []
        for shift in self.shifts:
            line = shifted(shift, line)
            words.append(line[1:-1])
        return tuple(words)

    def met(self, word):
        """For each shift the tuple of the places that it changes, of the word as it stands then."""
        need_word(word, "word")
        line = line_of([word])
        places = []
        for shift in self.shifts:
            places.append(tuple([at - 1 for at in changed_places(shift, line)]))
            line = shifted(shift, line)
        return tuple(places)

    def swapped(self, number):
        """The course with the shift of this number and the next one exchanged."""
        need_shift_number(self, number, len(self.shifts) - 1)
        ahead = self.shifts[:number]
        return Course([*ahead, self.shifts[number + 1], self.shifts[number], *self.shifts[number + 2:]])

    def without(self, number):
        """The course without the shift of this number."""
        need_shift_number(self, number, len(self.shifts))
        return Course(self.shifts[:number] + self.shifts[number + 1:])

    def then(self, other):
        """The course with the shifts of another course behind."""
        need_course(other, "other")
        return Course(self.shifts + other.shifts)

    def renamed(self, one, other):
        """The course with two sounds exchanged for one another in each shift."""
        need_sound(one, "one")
        need_sound(other, "other")
        return Course([shift.renamed(one, other) for shift in self.shifts])

    @staticmethod
    def read(text):
        """The course whose text this is."""
        return course_from(items_of(text), 0)


def course_from(items, at):
    """The course whose text stands among some items from an index on, up to the last one."""
    if item_at(items, at) == "-":
        need_end(items, at + 1)
        return Course([])
    shifts = [shift_from(items, at)]
    behind = at + ITEMS_OF_SHIFT
    while behind < len(items):
        if items[behind] != ";" or len(shifts) == MOST_SHIFTS:
            raise BadText(0, behind)
        shifts.append(shift_from(items, behind + 1))
        behind += 1 + ITEMS_OF_SHIFT
    return Course(shifts)
