import unittest

from foretongue.courses import Course
from foretongue.rooms import ends_alike, first_couples, next_couples, rest_of, room_of, room_step
from foretongue.shifts import Shift
from tests.helper import ODD, chances, error_of, plain_outcome, plain_words, some_course

DROP = Course([Shift("a", "b"), Shift("b", "")])


def plain_room(course, word):
    kept = 2 * len(course)
    return word[len(word) - kept:] if len(word) >= kept else "#" + word


def settled_by(course, word):
    """What the last sound of a word settles: the outcome of longer words shows it."""
    at = len(word) - 1 - len(course)
    return plain_outcome(course, word)[at] if at >= 0 else ""


def plain_rooms(course, stock):
    """For each room of the stock a word that has it."""
    return {plain_room(course, word): word for word in plain_words(stock, 2 * len(course))}


def plain_first(course, stock):
    found = set()
    for word in plain_rooms(course, stock).values():
        for one in stock:
            for other in stock:
                if one != other and settled_by(course, word + one) == settled_by(course, word + other):
                    found.add(tuple(sorted([plain_room(course, word + one), plain_room(course, word + other)])))
    return tuple(sorted(found))


def plain_next(course, stock, couple):
    rooms, found = plain_rooms(course, stock), set()
    for one in stock:
        for other in stock:
            words = rooms[couple[0]] + one, rooms[couple[1]] + other
            if settled_by(course, words[0]) == settled_by(course, words[1]):
                found.add(tuple(sorted(plain_room(course, word) for word in words)))
    return tuple(sorted(found))


def plain_rest(course, word):
    return plain_outcome(course, word)[max(0, len(word) - len(course)):]


def plain_couples(course, stock):
    rooms = plain_rooms(course, stock)
    return [(one, other) for one in rooms for other in rooms if one <= other and len(rooms[one]) == len(rooms[other])]


class Rooms(unittest.TestCase):
    def test_what_is_settled_stays(self):
        for many in range(5):
            for chance in chances(400 + many, 10):
                course = some_course(chance, "abc", many)
                word = "".join(chance.choices("abc", k=25))
                room, settled = plain_room(course, ""), ""
                for at, sound in enumerate(word):
                    self.assertEqual(plain_outcome(course, word[:at]), settled + rest_of(course, room))
                    if at <= 12:
                        self.assertEqual(room_of(course, word[:at]), room)
                    room, one = room_step(course, room, sound)
                    self.assertEqual(room, plain_room(course, word[:at + 1]))
                    self.assertEqual(len(one), 1 if at + 1 > many else 0)
                    settled += one
                self.assertEqual(plain_outcome(course, word), settled + rest_of(course, room))

    def test_rooms_of_no_shifts(self):
        empty = Course([])
        self.assertEqual((room_of(empty, "abc"), room_of(empty, "")), ("", ""))
        self.assertEqual((room_step(empty, "", "k"), rest_of(empty, "")), (("", "k"), ""))
        self.assertEqual(first_couples(empty, "abcde"), ())
        self.assertEqual(next_couples(empty, "ab", ("", "")), (("", ""),))
        self.assertIs(ends_alike(empty, "ab", ["", ""]), True)

    def test_rooms_of_one_shift(self):
        soft = Course([Shift("k", "c", None, "i")])
        self.assertEqual([room_of(soft, word) for word in ["", "k", "ki", "kik", "ikiki"]], ["#", "#k", "ki", "ik", "ki"])
        self.assertEqual([rest_of(soft, room) for room in ["#", "#k", "ik", "ki"]], ["", "k", "k", "i"])

    def test_wrong_rooms(self):
        one = Course([Shift("a", "b")])
        for value in ODD:
            self.assertEqual(error_of(room_of, value, value), ("BadCourse", ("course",)))
            self.assertEqual(error_of(rest_of, value, value), ("BadCourse", ("course",)))
            self.assertEqual(error_of(room_step, value, value, value), ("BadCourse", ("course",)))
            if value != "":
                self.assertEqual(error_of(room_of, DROP, value), ("BadWord", ("word",)))
            if value != "#":
                self.assertEqual(error_of(rest_of, one, value), ("BadWord", ("room",)))
                self.assertEqual(error_of(room_step, one, value, value), ("BadWord", ("room",)))
            self.assertEqual(error_of(room_step, one, "aa", value), ("BadWord", ("sound",)))
            self.assertEqual(error_of(room_step, DROP, "aaaa", value), ("BadWord", ("sound",)))
        for room in ["", "a", "aaa", "#aa", "##", "a#", "-a", "#-"]:
            self.assertEqual(error_of(rest_of, one, room), ("BadWord", ("room",)))
        for room in ["#", "a", "#a"]:
            self.assertEqual(error_of(rest_of, Course([]), room), ("BadWord", ("room",)))
        self.assertEqual(error_of(room_of, DROP, "a"), ("BadCourse", ("falls",)))
        self.assertEqual(error_of(rest_of, DROP, "#aaa"), ("BadCourse", ("falls",)))
        self.assertEqual(error_of(room_step, DROP, "#aaa", "a"), ("BadCourse", ("falls",)))
        self.assertIsNone(error_of(rest_of, Course([Shift("a", "b")] * 6), "z" * 12))
        self.assertIsNone(error_of(rest_of, Course([Shift("a", "b")] * 6), "#" + "z" * 11))

    def test_couples_against_listings(self):
        for stock, many, times in [("a", 3, 3), ("ab", 1, 20), ("abc", 1, 15), ("ab", 2, 8), ("ab", 0, 2), ("abcde", 1, 3)]:
            for chance in chances(410 + many, times):
                course = some_course(chance, stock + "x", many)
                self.assertEqual(first_couples(course, stock), plain_first(course, stock))
                rooms = plain_rooms(course, stock)
                couples = plain_couples(course, stock)
                for couple in chance.sample(couples, min(20, len(couples))):
                    self.assertEqual(next_couples(course, stock, list(couple)), plain_next(course, stock, couple))
                    rests = [plain_rest(course, rooms[room]) for room in couple]
                    self.assertIs(ends_alike(course, stock, couple), rests[0] == rests[1])

    def test_wrong_couples(self):
        one = Course([Shift("a", "b")])
        odd = [("ab", "aa"), ("#", "aa"), ("#a", "aa"), ("#", "#a"), ("a", "b"), ("aa", "ac"), ("aa",), ("aa", "ab", "bb"),
               "ab", ("#b", "#a"), ["aa", None], [None, "aa"], [1, 2], ("aaa", "aab"), "##", {"aa": 1, "ab": 2}, ("#ab", "#ab"), ("#a", "#z")]
        for call in (next_couples, ends_alike):
            for value in ODD:
                self.assertEqual(error_of(call, value, value, value), ("BadCourse", ("course",)))
                self.assertEqual(error_of(call, DROP, value, value), ("BadStock", ("stock",)))
                self.assertEqual(error_of(call, DROP, "abcde", value), ("BadPairs", ("couple",)))
            for value in odd:
                self.assertEqual(error_of(call, one, "ab", value), ("BadPairs", ("couple",)))
            for value in [("ab", "bb"), ("bb", "bd"), ("#a", "#b"), ("#b", "#d")]:
                self.assertEqual(error_of(call, one, "bc", value), ("BadPairs", ("couple",)))
            self.assertEqual(error_of(call, DROP, "abcde", ("#", "#")), ("BadCourse", ("falls",)))
            self.assertEqual(error_of(call, Course(one.shifts * 2), "abcd", ("#", "#")), ("TooMany", ("rooms", 100)))
            for couple in [("#", "#"), ["#a", "#b"], ("aa", "aa"), ("ab", "ba")]:
                self.assertIsNone(error_of(call, one, "ab", couple))

    def test_bounds(self):
        shift = Shift("a", "b")
        for value in ODD:
            self.assertEqual(error_of(first_couples, value, value), ("BadCourse", ("course",)))
            self.assertEqual(error_of(first_couples, DROP, value), ("BadStock", ("stock",)))
        self.assertEqual(error_of(first_couples, DROP, "abcde"), ("BadCourse", ("falls",)))
        for many, stock in [(2, "abcd"), (3, "abc"), (4, "ab"), (6, "ab"), (2, "abcde")]:
            self.assertEqual(error_of(first_couples, Course([shift] * many), stock), ("TooMany", ("rooms", 100)))
        for many, stock in [(1, "abcde"), (2, "abc"), (3, "ab"), (6, "a"), (0, "abcde")]:
            self.assertIsNone(error_of(first_couples, Course([shift] * many), stock))
