import unittest

from foretongue.courses import Course
from foretongue.desk_lines import ASKS, DEEDS, read_line
from foretongue.errors import BadText
from foretongue.sheets import Sheet
from tests.helper import ODD, bent_items, error_of

LONG = "1" + "0" * 59
LINES = {
    "put a sheet one two : sa . / si zi": ("put", "a", Sheet(["one", "two"], [["sa", None], ["si", "zi"]])),
    "put c1 course k > c / * _ i ; h > - / # _ *": ("put", "c1", Course.read("k > c / * _ i ; h > - / # _ *")),
    "put c course -": ("put", "c", Course([])),
    "drop a": ("drop", "a"),
    "row a sa": ("row", "a", "sa"),
    "row a . -a . " + "a" * 40: ("row", "a", None, "-a", None, "a" * 40),
    "row a .": ("row", "a", None),
    "strike a 0": ("strike", "a", 0),
    "strike a 3 0 3 " + LONG: ("strike", "a", 3, 0, 3, int(LONG)),
    "fill a 0 one .": ("fill", "a", 0, "one", None),
    "fill a 12 b2 -": ("fill", "a", 12, "b2", "-"),
    "width 0": ("width", 0),
    "width " + LONG: ("width", int(LONG)),
    "most 99": ("most", 99),
    "names": ("names",),
    "show names": ("show", "names"),
    "width": ("width",),
    "most": ("most",),
    "size a": ("size", "a"),
    "mother a": ("mother", "a"),
    "same a 0 10": ("same", "a", 0, 10),
    "alike a 1 1": ("alike", "a", 1, 1),
    "strangers a": ("strangers", "a"),
    "stand a 0 one": ("stand", "a", 0, "one"),
    "done c kuki": ("done", "c", "kuki"),
    "done c ": ("done", "c", ""),
    "parts c d iku": ("parts", "c", "d", "iku"),
    "parts c c a": ("parts", "c", "c", "a"),
    "fallen c abcde": ("fallen", "c", "abcde"),
}
# What stands behind the first item of each line: a letter for each item, `+` behind one or more.
FORMS = {"drop": "N", "row": "NC+", "strike": "NI+", "fill": "NINC", "names": "", "show": "N", "size": "N", "mother": "N",
         "same": "NII", "alike": "NII", "strangers": "N", "stand": "NIN", "done": "NW", "parts": "NNS", "fallen": "NS"}


def is_letters(item):
    return item.isascii() and (item == "" or item.isalpha() and item.islower())


def can_be(item, sort):
    """Whether an item can stand for a name, an integer, a cell, a word or a stock."""
    if sort == "N":
        return 1 <= len(item) <= 12 and item.isascii() and item.isalnum() and item == item.lower() and item[0].isalpha()
    if sort == "I":
        return item.isascii() and item.isdigit() and str(int(item)) == item and len(item) <= 60
    if sort == "C":
        return item == "." or item != "" and is_letters(item.replace("-", ""))
    if sort == "W":
        return is_letters(item) and len(item) <= 12
    return is_letters(item) and 1 <= len(item) <= 5 and list(item) == sorted(set(item))


def wanted_in_form(items, form):
    """The index that BadText tells of a line of this form, None for a right one."""
    many = None if form.endswith("+") else len(form)
    sorts = form.rstrip("+")
    for at, item in enumerate(items[1:]):
        if many is not None and at >= many:
            return at + 1
        if not can_be(item, sorts[min(at, len(sorts) - 1)]):
            return at + 1
    return len(items) if len(items) - 1 < len(sorts) else None


def index_behind(read, items, ahead):
    """The index that BadText tells of the text of a value, counted in the line."""
    try:
        read(" ".join(items))
    except BadText as error:
        return error.item + ahead
    return None


def wanted_index(items):
    """The index that BadText tells of any line, by the tables of the document; None for a right one."""
    word = items[0]
    if word in ("width", "most"):
        return wanted_in_form(items, "I") if len(items) > 1 else None
    if word in FORMS:
        return wanted_in_form(items, FORMS[word])
    if word != "put":
        return 0
    if len(items) < 2 or not can_be(items[1], "N"):
        return 1
    if len(items) < 3 or items[2] not in ("sheet", "course"):
        return 2
    if len(items) == 3:
        return 3
    return index_behind(Sheet.read if items[2] == "sheet" else Course.read, items[3:], 3)


class Lines(unittest.TestCase):
    def test_tables(self):
        self.assertEqual(DEEDS, ("put", "drop", "row", "strike", "fill", "width", "most"))
        self.assertEqual(ASKS, ("names", "show", "width", "most", "size", "mother", "same", "alike", "strangers", "stand",
                                "done", "parts", "fallen"))

    def test_each_line(self):
        for line, wanted in LINES.items():
            told = read_line(line)
            self.assertEqual(told, wanted)
            self.assertEqual([type(one) for one in (told, *told)], [type(one) for one in (wanted, *wanted)])
            self.assertIsNone(wanted_index(line.split(" ")))
        self.assertEqual({told[0] for told in LINES.values()}, {*DEEDS, *ASKS})

    def test_bent_lines(self):
        others = ["", "a", "A", "0", "01", "-1", "+1", "1" * 61, ".", "-", "sA", "b1", "iku", "ki", "abcdef", "sheet", "course",
                  "names", "width", "a" * 12, "a" * 13, ":", "/", "\u0661"]
        refused, right = 0, 0
        for line in LINES:
            for items in bent_items(line.split(" "), others):
                told = " ".join(items).split(" ")
                index = wanted_index(told)
                wanted = None if index is None else ("BadText", (0, index))
                refused, right = refused + (index is not None), right + (index is None)
                self.assertEqual(error_of(read_line, " ".join(items)), wanted, told)
        self.assertGreater(refused, 3000)
        self.assertGreater(right, 500)

    def test_told_faults(self):
        for line, item in [("", 0), (" names", 0), ("names ", 1), ("name", 0), ("put", 1), ("put a", 2), ("put a sheet", 3),
                           ("put a course", 3), ("put a sheet one", 4), ("put a sheet one : sa / s s", 8),
                           ("put a sheet one one : sa sa", 4), ("put a course u > i / * _ * ;", 11), ("put A sheet", 1),
                           ("put a thing one", 2), ("strike a", 2), ("row a", 2), ("row a sa ", 3), ("strike a 1 x", 3),
                           ("fill a 0 one", 4), ("fill a 0 one sa si", 5), ("width x", 1), ("width 1 2", 2), ("width ", 1),
                           ("most -1", 1), ("done c", 2), ("done c k k", 3), ("parts c d", 3), ("same a 0", 3),
                           ("same a 0 1 ", 4), ("fallen c ki", 2), ("done c K", 2), ("names\n", 0), ("put  sheet", 1)]:
            self.assertEqual(error_of(read_line, line), ("BadText", (0, item)), line)

    def test_other_values(self):
        for value in ODD + [["names"], ("names",), b"names"]:
            if not isinstance(value, str):
                self.assertEqual(error_of(read_line, value), ("BadText", (0, 0)))
