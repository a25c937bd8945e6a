"""Which shifts of a course do nothing, and which orders of them do the same."""

from itertools import permutations

from foretongue.alike import are_alike, least_parting, need_bounds
from foretongue.courses import Course, need_course
from foretongue.lots import lots_below
from foretongue.needs import need_stock
from foretongue.papers import Paper


class Core(Paper):
    """The first lot of shifts that is alike with all, and a word that parts each lot ahead of it."""

    def __init__(self, numbers, words):
        super().__init__("core", numbers, words)
        self.numbers, self.words = self.parts


class FirstOrder(Paper):
    """The first order that is alike with the course, and a word that parts each order ahead of it."""

    def __init__(self, numbers, words):
        super().__init__("firstorder", numbers, words)
        self.numbers, self.words = self.parts


def need_all_words(course, stock):
    """The errors of a course that is asked about all words of a stock."""
    need_course(course, "course")
    need_stock(stock, "stock")
    need_bounds(course, course, stock)


def course_of(course, numbers):
    """The course of the shifts of a course that have these numbers, in the order told."""
    return Course([course.shifts[number] for number in numbers])


def all_lots(course):
    """All lots of the shifts of a course: fewer numbers first, then as tuples compare."""
    return lots_below(len(course))


def keeps_equal(course, numbers):
    """Whether in a row of all shifts those that are equal stand by their numbers."""
    for at, one in enumerate(numbers):
        for other in numbers[at + 1:]:
            if one > other and course.shifts[one] == course.shifts[other]:
                return False
    return True


def texts_of(course, numbers):
    """The tuple of the texts of the shifts with these numbers, by which orders are compared."""
    return tuple([str(course.shifts[number]) for number in numbers])


def all_orders(course):
    """All orders of a course, ascending by the texts of their shifts."""
    told = [
        (texts_of(course, numbers), numbers)
        for numbers in permutations(range(len(course)))
        if keeps_equal(course, numbers)
    ]
    return [numbers for _, numbers in sorted(told)]


def first_of(rows, course, stock):
    """The first of some rows of shifts that is alike with the course, and the words for those ahead.

    The course itself must be among the rows.
    """
    words = []
    for numbers in rows:
        word = least_parting(course_of(course, numbers), course, stock)
        if word is None:
            return numbers, words
        words.append(word)
    return None


def idle_shifts(course, stock):
    """The ascending tuple of the numbers of all idle shifts."""
    need_all_words(course, stock)
    numbers = range(len(course))
    return tuple([number for number in numbers if are_alike(course.without(number), course, stock)])


def least_course(course, stock):
    """The Core of a course on a stock."""
    need_all_words(course, stock)
    numbers, words = first_of(all_lots(course), course, stock)
    return Core(numbers, words)


def first_alike(course, stock):
    """The FirstOrder of a course on a stock."""
    need_all_words(course, stock)
    numbers, words = first_of(all_orders(course), course, stock)
    return FirstOrder(numbers, words)


def orders_alike(course, stock):
    """The tuple of all orders that are alike with the course, in their order."""
    need_all_words(course, stock)
    orders = all_orders(course)
    return tuple([numbers for numbers in orders if are_alike(course_of(course, numbers), course, stock)])
