"""Histories: sheets that are made of words of a mother by a course for each language."""

from foretongue.checks import is_list, is_word
from foretongue.columns import NOTHING_LEFT
from foretongue.courses import Course, need_course
from foretongue.errors import BadCourse, BadWord, Misfit
from foretongue.needs import need_word
from foretongue.sheets import Sheet, need_names, need_once
from foretongue.shifts import changed_places, line_of
from foretongue.walks import numbered


def aligned_shift(shift, signs):
    """What a shift makes of a list of signs: those that fell have no part in it."""
    places = [at for at, sign in enumerate(signs) if sign != NOTHING_LEFT]
    line = line_of(["".join(signs).replace(NOTHING_LEFT, "")])
    made = list(signs)
    for index in changed_places(shift, line):
        # The line has one `#` ahead of the first sound that is left.
        made[places[index - 1]] = shift.new or NOTHING_LEFT
    return made


def aligned_outcome(course, word):
    """The string of what has come of each sound of a word, `-` for what fell."""
    signs = list(word)
    for shift in course.shifts:
        signs = aligned_shift(shift, signs)
    return "".join(signs)


def aligned(course, word):
    """The aligned outcome of a word: a sign for each place of it."""
    need_course(course, "course")
    need_word(word, "word")
    return aligned_outcome(course, word)


def need_mother_words(words):
    """BadWord for what is no list of one or more words of one or more sounds."""
    if not is_list(words) or len(words) == 0 or not all([is_word(word) and word != "" for word in words]):
        raise BadWord("words")


def history_sheet(languages, courses, words):
    """The Sheet of a history: a row for each word, a cell for each language."""
    need_names(languages)
    need_once(languages)
    if not is_list(courses) or not all([isinstance(course, Course) for course in courses]):
        raise BadCourse("courses")
    need_mother_words(words)
    if len(courses) != len(languages):
        raise Misfit("languages")
    return Sheet(languages, [[aligned_outcome(course, word) for course in courses] for word in words])


def own_dyeing(words):
    """The own dyeing of a history: places are numbered by the sounds of its words."""
    need_mother_words(words)
    return numbered("".join(words))
