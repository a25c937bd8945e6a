import unittest

from foretongue.courses import Course
from foretongue.shifts import Shift
from tests.helper import (ODD, bent_items, chances, error_of, plain_changes, plain_done, plain_outcome, plain_words,
                          some_course, some_shift, wanted_index)
from tests.test_shifts import FILLERS, is_shift_text


def is_course_text(items):
    if items == ["-"]:
        return True
    if len(items) % 8 != 7 or len(items) > 47:
        return False
    shifts = [items[at:at + 7] for at in range(0, len(items), 8)]
    return all(map(is_shift_text, shifts)) and all(item == ";" for item in items[7::8])


def can_begin(items):
    rest = len(items) % 8
    filler = [[]] if rest == 7 else [shift[rest:] for shift in FILLERS]
    return is_course_text(items) or any(is_course_text(items + more) for more in filler)


class Courses(unittest.TestCase):
    def test_attributes(self):
        soft, drop = Shift("k", "c", right="i"), Shift("h", "", "#z")
        course = Course([soft, drop])
        self.assertEqual((course.shifts, course.falls, course.sounds, len(course)), ((soft, drop), True, "chikz", 2))
        self.assertIs(type(course.shifts), tuple)
        empty = Course(())
        self.assertEqual((empty.shifts, empty.falls, empty.sounds, len(empty)), ((), False, "", 0))
        self.assertEqual(Course([soft, soft]).shifts, (soft, soft))

    def test_what_is_passed_is_copied(self):
        shifts = [Shift("a", "b")]
        course = Course(shifts)
        shifts.append(Shift("b", "c"))
        self.assertEqual((len(course), course), (1, Course([Shift("a", "b")])))

    def test_wrong_shifts(self):
        shift = Shift("a", "b")
        for value in ODD:
            wanted = None if value in ([], ()) else ("BadCourse", ("shifts",))
            self.assertEqual(error_of(Course, value), wanted)
            self.assertEqual(error_of(Course, [shift] * 7 + [value]), ("BadCourse", ("shifts",)))
        self.assertEqual(error_of(Course, shift), ("BadCourse", ("shifts",)))
        self.assertIsNone(error_of(Course, [shift] * 6))
        self.assertEqual(error_of(Course, [shift] * 7), ("TooMany", ("shifts", 6)))

    def test_done_steps_and_met(self):
        words = plain_words("abc", 4)
        for many in range(7):
            for chance in chances(10 + many, 6):
                course = some_course(chance, "abc", many, falls=True)
                for word in words:
                    steps, places, stands = [], [], word
                    for shift in course.shifts:
                        places.append(plain_changes(shift, stands))
                        stands = plain_done(shift, stands)
                        steps.append(stands)
                    self.assertEqual(course.done(word), stands)
                    self.assertEqual(course.steps(word), tuple(steps))
                    self.assertEqual(course.met(word), tuple(places))

    def test_wrong_words(self):
        for course in (Course([]), Course([Shift("a", "b")])):
            for call in (course.done, course.steps, course.met):
                for value in ODD:
                    self.assertEqual(error_of(call, value), None if value == "" else ("BadWord", ("word",)))

    def test_swapped_and_without(self):
        for many in range(7):
            course = some_course(chances(20, 7)[many], "abcd", many)
            for number in range(many):
                left = list(course.shifts)
                del left[number]
                self.assertEqual(course.without(number), Course(left))
                if number + 1 < many:
                    turned = list(course.shifts)
                    turned[number:number + 2] = turned[number:number + 2][::-1]
                    self.assertEqual(course.swapped(number), Course(turned))
            for number in [many, -1, True, False, None, "0", 0.0, [0], 10 ** 30]:
                self.assertEqual(error_of(course.without, number), ("NoShift", (number,)))
                self.assertEqual(error_of(course.swapped, number), ("NoShift", (number,)))
            self.assertEqual(error_of(course.swapped, many - 1), ("NoShift", (many - 1,)))
            self.assertEqual(len(course), many)

    def test_then(self):
        chance = chances(30, 1)[0]
        shifts = [some_shift(chance, "abc") for _ in range(6)]
        for one in range(7):
            for other in range(7):
                first, second = Course(shifts[:one]), Course(shifts[6 - other:])
                if one + other > 6:
                    self.assertEqual(error_of(first.then, second), ("TooMany", ("shifts", 6)))
                else:
                    self.assertEqual(first.then(second).shifts, tuple(shifts[:one] + shifts[6 - other:]))
        for value in ODD + [shifts, Shift("a", "b")]:
            self.assertEqual(error_of(Course(shifts).then, value), ("BadCourse", ("other",)))

    def test_renamed(self):
        course = Course([Shift("k", "c", "#a", "i"), Shift("a", "")])
        self.assertEqual(str(course.renamed("a", "z")), "k > c / #z _ i ; z > - / * _ *")
        self.assertEqual(course.renamed("a", "a"), course)
        for course in (course, Course([])):
            for value in ODD:
                self.assertEqual(error_of(course.renamed, value, value), ("BadWord", ("one",)))
                self.assertEqual(error_of(course.renamed, "a", value), ("BadWord", ("other",)))
        self.assertEqual(Course([]).renamed("a", "b"), Course([]))

    def test_equality(self):
        one, other = Shift("a", "b"), Shift("b", "a")
        rows = [(), (one,), (other,), (one, other), (other, one), (one, one)]
        for first in rows:
            for second in rows:
                self.assertEqual(Course(first) == Course(list(second)), first == second)
        for value in [None, "-", (), one]:
            self.assertFalse(Course([]) == value)

    def test_exchanged_sounds(self):
        for chance in chances(31, 20):
            course = some_course(chance, "abc", 3, falls=True)
            table = str.maketrans("ab", "ba")
            for word in plain_words("abc", 3):
                renamed = course.renamed("a", "b").done(word.translate(table))
                self.assertEqual(renamed, plain_outcome(course, word).translate(table))

    def test_texts(self):
        self.assertEqual((str(Course([])), Course.read("-")), ("-", Course([])))
        for many in range(7):
            for chance in chances(40 + many, 5):
                course = some_course(chance, "abc", many, falls=True)
                self.assertEqual(Course.read(str(course)), course)

    def test_bent_texts(self):
        others = ["", "a", "-", "*", "#", ";", "/", ">", "_", "ba"]
        full = " ; ".join(["a > b / * _ *"] * 6)
        for text in ["-", "a > - / # _ #a ; b > a / * _ z", full]:
            for items in bent_items(text.split(" "), others):
                told = " ".join(items).split(" ")
                index = wanted_index(told, can_begin, is_course_text)
                wanted = None if index is None else ("BadText", (0, index))
                self.assertEqual(error_of(Course.read, " ".join(items)), wanted, items)
        self.assertEqual(error_of(Course.read, full + " ; a > b / * _ *"), ("BadText", (0, 47)))

    def test_read_of_no_text(self):
        for value in [None, True, 5, [], ["-"], b"-", Course([])]:
            self.assertEqual(error_of(Course.read, value), ("BadText", (0, 0)))
        for text, item in [("", 0), ("- ", 1), ("- -", 1), (" -", 0), ("u > i / * _ * ;", 8), ("u > i / * _ * ; -", 8)]:
            self.assertEqual(error_of(Course.read, text), ("BadText", (0, item)))
