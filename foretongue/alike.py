"""Whether two courses do the same to all long words of a stock."""

from foretongue.courses import done_line, need_course, need_no_fall, need_shift_number
from foretongue.errors import TooMany
from foretongue.needs import need_stock
from foretongue.papers import Denial, Paper
from foretongue.shifts import line_of
from foretongue.stocks import longer_words, many_words

MOST_SHIFTS = 3
MOST_WORDS = 4000


class AllAlike(Paper):
    """The courses are alike, as no word of at most so many sounds parts them."""

    def __init__(self, most):
        super().__init__("allalike", most)
        self.most = self.parts[0]


class Parted(Denial):
    """A word that parts the courses, and its outcomes by the one and by the other."""

    def __init__(self, word, first, second):
        super().__init__("parted", word, first, second)
        self.word, self.first, self.second = self.parts


def widest(one, other):
    """How many sounds a word has at most that is wanted to part two courses."""
    return 2 * max(len(one), len(other)) + 1


def need_bounds(one, other, stock):
    """The errors behind the parameters of what is told of all words."""
    need_no_fall([one, other])
    if max(len(one), len(other)) > MOST_SHIFTS:
        raise TooMany("shifts", MOST_SHIFTS)
    if many_words(stock, widest(one, other)) > MOST_WORDS:
        raise TooMany("words", MOST_WORDS)


def parted_of_length(one, other, words):
    """Those of some equally long words that part two courses, in their order."""
    line = line_of(words)
    first = done_line(one, line)
    second = done_line(other, line)
    if first == second:
        return []
    outcomes = zip(words, first[1:-1].split("#"), second[1:-1].split("#"))
    return [word for word, mine, its in outcomes if mine != its]


def least_parting(one, other, stock):
    """The least word of the stock that parts two courses, None if they are alike."""
    words = [""]
    for _ in range(widest(one, other)):
        words = longer_words(words, stock)
        found = parted_of_length(one, other, words)
        if len(found) > 0:
            return found[0]
    return None


def are_alike(one, other, stock):
    """Whether two courses are alike on a stock."""
    return least_parting(one, other, stock) is None


def told_alike(one, other, stock):
    """The AllAlike of two courses, or the Parted of the least word."""
    word = least_parting(one, other, stock)
    if word is None:
        return AllAlike(widest(one, other))
    return Parted(word, one.done(word), other.done(word))


def same_on_all(one, other, stock):
    """The AllAlike of two courses on a stock, or the Parted of the least word that parts them."""
    need_course(one, "one")
    need_course(other, "other")
    need_stock(stock, "stock")
    need_bounds(one, other, stock)
    return told_alike(one, other, stock)


def can_exchange(course, number, stock):
    """What same_on_all tells of a course, and of it with this shift and the next one exchanged."""
    need_course(course, "course")
    need_shift_number(course, number, len(course) - 1)
    need_stock(stock, "stock")
    need_bounds(course, course, stock)
    return told_alike(course, course.swapped(number), stock)


def exchanges(course, stock):
    """The ascending tuple of the numbers of all shifts that can be exchanged with the next one."""
    need_course(course, "course")
    need_stock(stock, "stock")
    need_bounds(course, course, stock)
    numbers = range(len(course) - 1)
    return tuple([number for number in numbers if are_alike(course, course.swapped(number), stock)])


def is_least(small, firsts):
    """Whether no other one of the stocks that part the courses lies within a stock."""
    for other in firsts:
        if other != small and all([sound in small for sound in other]):
            return False
    return True


def parting_stocks(one, other, stock):
    """The pairs of each least stock that parts the courses, and the least word of it that does."""
    need_course(one, "one")
    need_course(other, "other")
    need_stock(stock, "stock")
    need_bounds(one, other, stock)
    firsts = {}
    words = [""]
    for _ in range(widest(one, other)):
        words = longer_words(words, stock)
        for word in parted_of_length(one, other, words):
            firsts.setdefault("".join(sorted(set(word))), word)
    # A word that parts on a least stock has all its sounds, or a stock within would part, too.
    least = [(len(small), small) for small in firsts if is_least(small, firsts)]
    return tuple([(small, firsts[small]) for _, small in sorted(least)])
