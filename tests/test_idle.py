import unittest
from itertools import combinations, permutations

from foretongue.courses import Course
from foretongue.idle import Core, FirstOrder, first_alike, idle_shifts, least_course, orders_alike
from foretongue.shifts import Shift
from tests.helper import ODD, chances, error_of, plain_outcome, plain_words, some_course, some_shift


def course_of(course, numbers):
    return Course([course.shifts[number] for number in numbers])


def least_parting(one, course, stock):
    for word in plain_words(stock, 2 * len(course) + 1):
        if plain_outcome(one, word) != plain_outcome(course, word):
            return word
    return None


def plain_lots(course):
    return [lot for size in range(len(course) + 1) for lot in combinations(range(len(course)), size)]


def plain_orders(course):
    """All orders: of those with equal rows of shifts the first one, so equal shifts stand by their numbers."""
    told = {}
    for numbers in permutations(range(len(course))):
        told.setdefault(tuple(str(course.shifts[number]) for number in numbers), numbers)
    return [told[texts] for texts in sorted(told)]


def first_of(rows, course, stock):
    words = []
    for numbers in rows:
        word = least_parting(course_of(course, numbers), course, stock)
        if word is None:
            return numbers, tuple(words)
        words.append(word)


def some_idle_course(chance, letters):
    shifts = [some_shift(chance, letters) for _ in range(2)]
    return Course([chance.choice(shifts) for _ in range(chance.randrange(4))])


class Idle(unittest.TestCase):
    def test_against_listings(self):
        for stock, many in [("a", 20), ("ab", 60), ("abc", 12)]:
            for chance in chances(200 + len(stock), many):
                course = some_course(chance, "abcd", chance.randrange(4))
                if chance.random() < 0.5:
                    course = some_idle_course(chance, "abc")
                numbers = range(len(course))
                alone = [number for number in numbers if least_parting(course.without(number), course, stock) is None]
                self.assertEqual(idle_shifts(course, stock), tuple(alone))
                self.assertEqual(least_course(course, stock), Core(*first_of(plain_lots(course), course, stock)))
                orders = plain_orders(course)
                self.assertEqual(first_alike(course, stock), FirstOrder(*first_of(orders, course, stock)))
                alike = [row for row in orders if least_parting(course_of(course, row), course, stock) is None]
                self.assertEqual(orders_alike(course, stock), tuple(alike))

    def test_courses_of_the_same_shifts_get_the_same_row(self):
        for chance in chances(210, 30):
            course = some_course(chance, "abc", 3)
            first = course_of(course, first_alike(course, "ab").numbers)
            for numbers in orders_alike(course, "ab"):
                other = course_of(course, numbers)
                self.assertEqual(course_of(other, first_alike(other, "ab").numbers), first)

    def test_two_idle_shifts_need_not_be_idle_together(self):
        hard = Shift("k", "t")
        self.assertEqual(idle_shifts(Course([hard, hard]), "k"), (0, 1))
        self.assertEqual(least_course(Course([hard, hard]), "k"), Core((0,), ("k",)))
        self.assertEqual(orders_alike(Course([hard, hard, hard]), "k"), ((0, 1, 2),))

    def test_orders_that_come_by_no_neighbours(self):
        one = Course([Shift("c", "a"), Shift("a", "c"), Shift("c", "b")])
        self.assertIn((1, 2, 0), orders_alike(one, "abc"))

    def test_without_shifts(self):
        empty = Course([])
        self.assertEqual(idle_shifts(empty, "abcde"), ())
        self.assertEqual(least_course(empty, "a"), Core((), ()))
        self.assertEqual(first_alike(empty, "a"), FirstOrder((), ()))
        self.assertEqual(orders_alike(empty, "a"), ((),))

    def test_wrong(self):
        shift = Shift("a", "b")
        drop = Course([shift, shift, shift, Shift("a", "")])
        for call in (idle_shifts, least_course, first_alike, orders_alike):
            for value in ODD:
                self.assertEqual(error_of(call, value, value), ("BadCourse", ("course",)))
                self.assertEqual(error_of(call, drop, value), ("BadStock", ("stock",)))
            self.assertEqual(error_of(call, drop, "abcde"), ("BadCourse", ("falls",)))
            self.assertEqual(error_of(call, Course([shift] * 4), "abcde"), ("TooMany", ("shifts", 3)))
            self.assertEqual(error_of(call, Course([shift] * 3), "abcd"), ("TooMany", ("words", 4000)))
            self.assertIsNone(error_of(call, Course([shift] * 3), "abc"))
            self.assertIsNone(error_of(call, Course([shift] * 2), "abcde"))
