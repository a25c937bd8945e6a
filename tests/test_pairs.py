import unittest
from itertools import permutations

from foretongue.courses import Course
from foretongue.orders import possible_orders
from foretongue.pairs import Pairs
from foretongue.shifts import Shift
from tests.helper import ODD, bent_items, chances, error_of, some_course, wanted_index
from tests.plain_orders import course_of, fitted, plain_made, some_told

SOFT, HIGH, DROP = Shift("k", "c", None, "i"), Shift("u", "i"), Shift("h", "")
FOUR = [SOFT, HIGH, DROP, Shift("k", "t")]
TOLD = Pairs([SOFT, HIGH], [("ku", "ki"), ["", ""], ("si", "si")])
NINE_PAIRS = [("a" * many, "") for many in range(9)]


class Making(unittest.TestCase):
    def test_attributes(self):
        self.assertEqual(TOLD.shifts, (SOFT, HIGH))
        self.assertEqual(TOLD.pairs, (("ku", "ki"), ("", ""), ("si", "si")))
        self.assertEqual((TOLD.orders, len(TOLD), len(Pairs((HIGH,), ()))), (((0, 1), (1, 0)), 3, 0))
        for many in range(1, 5):
            self.assertEqual(Pairs(FOUR[:many], []).orders, tuple(permutations(range(many))))

    def test_what_is_passed_is_copied(self):
        shifts, pairs = [SOFT], [["a", "b"]]
        told = Pairs(shifts, pairs)
        shifts.append(HIGH)
        pairs[0][1] = "c"
        pairs.append(["x", "y"])
        self.assertEqual(str(told), "k > c / * _ i : a=b")

    def test_equality(self):
        self.assertEqual(TOLD, Pairs((SOFT, HIGH), [["ku", "ki"], ["", ""], ["si", "si"]]))
        for other in [Pairs([HIGH, SOFT], TOLD.pairs), Pairs([SOFT], TOLD.pairs), Pairs([SOFT, HIGH], TOLD.pairs[:2]),
                      Pairs([SOFT, HIGH], TOLD.pairs[::-1]), str(TOLD), None, 3]:
            self.assertFalse(TOLD == other)

    def test_wrong_shifts(self):
        for value in ODD + [SOFT, [SOFT, None], "k > c / * _ i", [str(SOFT)], Course([SOFT]), [[SOFT]]]:
            self.assertEqual(error_of(Pairs, value, value), ("BadShift", ("shifts",)))
        self.assertEqual(error_of(Pairs, [SOFT, HIGH, HIGH, SOFT], None), ("Twice", (HIGH,)))
        self.assertEqual(error_of(Pairs, FOUR + FOUR[:1], None), ("Twice", (SOFT,)))
        self.assertEqual(error_of(Pairs, FOUR + [Shift("a", "b")], None), ("TooMany", ("shifts", 4)))
        self.assertEqual(error_of(Pairs, [SOFT] + [None], None), ("BadShift", ("shifts",)))

    def test_wrong_pairs(self):
        for value in ODD + [[("a",)], [("a", "b", "c")], ["ab"], [("a", None)], [("a", "B")], ("a", "b"), [["a" * 13, "a"]],
                            {"a": "b"}, [("a", "b"), None], "ab", [{"a": 1, "b": 2}]]:
            if value not in ([], ()):
                self.assertEqual(error_of(Pairs, [SOFT], value), ("BadPairs", ("pairs",)), value)
        self.assertEqual(error_of(Pairs, [SOFT], [["a", "b"], ("b", "a"), ("b", "a"), ("a", "b")]), ("Twice", (("b", "a"),)))
        self.assertEqual(error_of(Pairs, [SOFT], NINE_PAIRS + [["", ""]]), ("Twice", (("", ""),)))
        self.assertEqual(error_of(Pairs, [SOFT], NINE_PAIRS), ("TooMany", ("pairs", 8)))
        self.assertIsNone(error_of(Pairs, [SOFT], NINE_PAIRS[:8]))
        self.assertIsNone(error_of(Pairs, [SOFT], [("a", "b"), ("a", "c"), ("b", "b")]))


class Asking(unittest.TestCase):
    def test_courses_and_misfits(self):
        for chance in chances(3100, 30):
            told = some_told(chance, chance.randrange(1, 5), falls=True, honest=0.4)
            for order in told.orders:
                self.assertEqual(told.course_by(list(order)), course_of(told, order))
                misfits = tuple(at for at in range(len(told)) if at not in fitted(told, order))
                self.assertEqual(told.misfits(order), misfits)

    def test_no_order(self):
        for call in (TOLD.course_by, TOLD.misfits):
            for value in ODD + [(0,), (0, 0), (0, 1, 2), (1, 2), (0, True), [False, True], (0.0, 1.0), "01", {0: 1, 1: 0}]:
                self.assertEqual(error_of(call, value), ("BadPairs", ("order",)), value)

    def test_with_pair(self):
        told = TOLD.with_pair("ku", "ci")
        self.assertEqual((told.shifts, told.pairs), (TOLD.shifts, TOLD.pairs + (("ku", "ci"),)))
        self.assertEqual(len(TOLD), 3)
        for value in ODD + ["a-"]:
            if value not in ("", ):
                self.assertEqual(error_of(TOLD.with_pair, value, value), ("BadWord", ("word",)))
                self.assertEqual(error_of(TOLD.with_pair, "", value), ("BadWord", ("outcome",)))
        self.assertEqual(error_of(TOLD.with_pair, "si", "si"), ("Twice", (("si", "si"),)))
        full = Pairs([SOFT], NINE_PAIRS[:8])
        self.assertEqual(error_of(full.with_pair, "b", ""), ("TooMany", ("pairs", 8)))
        self.assertEqual(error_of(full.with_pair, "a", ""), ("Twice", (("a", ""),)))

    def test_without(self):
        self.assertEqual(TOLD.without([2, 0]), Pairs([SOFT, HIGH], [("", "")]))
        self.assertEqual((TOLD.without(()), len(TOLD.without((0, 1, 2)))), (TOLD, 0))
        for value in ODD + [[3], [0, -1], [True], [0, None], "0", 0, [0.0], {0: 0}, [0, 0, 3]]:
            if value not in ([], ()):
                self.assertEqual(error_of(TOLD.without, value), ("BadPairs", ("numbers",)), value)
        self.assertEqual(error_of(TOLD.without, [0, 2, 2, 0]), ("Twice", (2,)))

    def test_of_a_course(self):
        for chance in chances(3110, 30):
            course = some_course(chance, "abc", chance.randrange(1, 5), falls=True)
            words = ["".join(chance.choices("abc", k=length)) for length in range(chance.randrange(9))]
            if len(set(map(str, course.shifts))) == len(course):
                told = Pairs.of(course, words)
                order = tuple(range(len(course)))
                wanted = tuple((word, plain_made(course.shifts, order, word)) for word in words)
                self.assertEqual((told.shifts, told.pairs), (course.shifts, wanted))
                self.assertIn(order, possible_orders(told))

    def test_of_wrong(self):
        course = Course([SOFT])
        for value in ODD + [str(course), [SOFT]]:
            self.assertEqual(error_of(Pairs.of, value, value), ("BadCourse", ("course",)))
        for value in ODD + [["a", None], ["a-"], [("a",)], "ab", ["a" * 13], [True]]:
            if value not in ([], (), ["a"], ("a", "b")):
                self.assertEqual(error_of(Pairs.of, Course([]), value), ("BadWord", ("words",)), value)
        self.assertEqual(error_of(Pairs.of, Course([]), ["a"]), ("BadShift", ("shifts",)))
        self.assertEqual(error_of(Pairs.of, Course([SOFT, HIGH, SOFT]), ["a", "a"]), ("Twice", (SOFT,)))
        self.assertEqual(error_of(Pairs.of, Course(FOUR + [Shift("a", "b")]), ["a", "a"]), ("TooMany", ("shifts", 4)))
        self.assertEqual(error_of(Pairs.of, course, ["ki", "a", "ki"]), ("Twice", (("ki", "ci"),)))
        self.assertEqual(error_of(Pairs.of, course, ["a" * many for many in range(9)]), ("TooMany", ("pairs", 8)))
        self.assertEqual(Pairs.of(course, ()).pairs, ())


def pairs_of_items(items):
    """The Pairs of the items of a text, made without reading."""
    at = items.index(":")
    shifts = [Shift.read(text.strip(" ")) for text in " ".join(items[:at]).split(";")]
    behind = items[at + 1:]
    return Pairs(shifts, [] if behind == ["-"] else [item.split("=") for item in behind])


def is_text(items):
    if ":" not in items or error_of(pairs_of_items, items) is not None:
        return False
    return str(pairs_of_items(items)) == " ".join(items)


def can_begin(items):
    """Whether some items can begin the text of Pairs: some filler makes a whole one of them."""
    fillers = [[]]
    if ":" not in items:
        at = len(items) - 1 - items[::-1].index(";") if ";" in items else -1
        begun = items[at + 1:]
        rows = [["x", ">", "y", "/", "a", "_", "q"], ["x", ">", "y", "/", "a", "_", "*"], ["y", ">", "x", "/", "a", "_", "*"]]
        fillers = [row[len(begun):] + [":", "-"] for row in rows]
    elif items[-1] == ":":
        fillers = [["-"]]
    return any(is_text(items + filler) for filler in fillers)


class Reading(unittest.TestCase):
    def test_texts(self):
        for chance in chances(3200, 40):
            told = some_told(chance, chance.randrange(1, 5), falls=True)
            self.assertEqual(Pairs.read(str(told)), told)
        self.assertEqual(str(Pairs([HIGH], [])), "u > i / * _ * : -")
        self.assertEqual(str(TOLD), "k > c / * _ i ; u > i / * _ * : ku=ki = si=si")

    def test_bent_texts(self):
        others = ["", "a", "-", ":", ";", ">", "/", "_", "*", "=", "a=b", "ku=ki", "ki=ku", "a==b", "a=b=c", "a-=b", "k", "#",
                  "a" * 13 + "=", "1=2"]
        for text in ["u > i / * _ * : -", "k > c / * _ i ; u > i / * _ * : ku=ki = si=si", "h > - / #a _ # : =",
                     "a > b / * _ * ; b > a / * _ * ; a > c / * _ * ; c > a / * _ * : ab=cd b=a"]:
            for items in bent_items(text.split(" "), others):
                told = " ".join(items).split(" ")
                index = wanted_index(told, can_begin, is_text)
                wanted = None if index is None else ("BadText", (0, index))
                self.assertEqual(error_of(Pairs.read, " ".join(items)), wanted, told)

    def test_two_texts(self):
        text = "u > i / * _ * : ku=ki"
        self.assertEqual(error_of(Pairs.read, text + " " + text), ("BadText", (0, 9)))
        self.assertEqual(error_of(Pairs.read, text + " ; " + text), ("BadText", (0, 9)))

    def test_told_faults(self):
        one, nine = "u > i / * _ *", " ".join(word + "=" for word, _ in NINE_PAIRS)
        four = " ; ".join(f"{sound} > x / * _ *" for sound in "abcd")
        for text, item in [("", 0), ("-", 0), (one, 7), (one + " :", 8), (one + " ;", 8), (one + " ; " + one + " : -", 14),
                           (four + " ; e > x / * _ * : -", 31), (one + " : ku=ki ki", 9), (one + " : - -", 9),
                           (one + " : a=b -", 9), (one + " : a=b a=b", 9), (one + " : " + nine, 16), (one + " : -=", 8),
                           (one + " : a=b ", 9), (one + "  : -", 7), (one + " : a=b\n", 8), (one + " x", 7)]:
            self.assertEqual(error_of(Pairs.read, text), ("BadText", (0, item)), text)
        self.assertEqual(len(Pairs.read(one + " : " + " ".join(nine.split(" ")[:8]))), 8)
        self.assertEqual(len(Pairs.read(four + " : =").shifts), 4)
        for value in ODD + [TOLD]:
            if not isinstance(value, str):
                self.assertEqual(error_of(Pairs.read, value), ("BadText", (0, 0)))
