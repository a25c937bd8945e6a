import unittest

from foretongue.alike import same_on_all
from foretongue.answers import answer
from foretongue.courses import Course
from foretongue.desk_asks import answer_of
from foretongue.desk_lines import ASKS, DEEDS
from foretongue.dyeings import size_of
from foretongue.errors import Impossible, TongueError
from foretongue.fallen import fallen
from foretongue.gaps import cell_of, fillings
from foretongue.refusing import Mother, NoMother, least_size, mother_of
from foretongue.sayings import AlikeRows, Same
from foretongue.sheets import Sheet
from foretongue.shelves import Shelf
from foretongue.strangers import fewest_strangers
from tests.helper import ODD, chances, error_of, some_course
from tests.plain_gaps import plain_loose, plain_standing, some_gapped
from tests.test_desk_lines import LINES

SHEET = Sheet.read("one two : sa sa / si zi")
GAPPED = Sheet.read("one two : sa . / si zi")
NINE = Sheet.read("one two : saasaasaa . / s s")
COURSE = Course.read("k > c / * _ i")
DROP = Course.read("k > - / * _ *")
SHELF = Shelf([("a", SHEET), ("c", COURSE), ("g", GAPPED), ("n", NINE), ("d", DROP)], 1, 3)


def told_or_error(call, *values):
    try:
        return call(*values)
    except TongueError as error:
        return type(error).__name__, tuple(vars(error).values())


class Asks(unittest.TestCase):
    def check(self, line, wanted, shelf=SHELF):
        told = answer_of(shelf, line)
        self.assertEqual((type(told), told), (str, wanted), line)

    def test_each_ask(self):
        for line, wanted in [
                ("names", "a c g n d"), ("show a", "sheet one two : sa sa / si zi"), ("show c", "course k > c / * _ i"),
                ("show g", "sheet one two : sa . / si zi"), ("width", "1"), ("most", "3"), ("size a", "3"), ("mother a", "0 1 0 2"),
                ("same a 0 2", "sure"), ("same a 1 3", "never"), ("alike a 0 1", "never"), ("strangers a", "-"),
                ("done c kiki", "cici"), ("done c ", ""), ("done d kkk", ""), ("parts c c ik", "-"), ("fallen c cik", "ci ki"),
                ("fallen c ik", "-"), ("done d akk", "a")]:
            self.check(line, wanted)
        self.check("stand g 0 two", " ".join(cell_of(GAPPED, 1, 3, 0, "two").cells))

    def test_nothing_there(self):
        self.check("names", "-", Shelf())
        shelf = Shelf(SHELF.things, 0, 1)
        self.check("mother a", "-", shelf)
        self.check("stand g 0 two", "-", shelf)
        self.check("strangers a", "0 1", shelf)
        self.check("show e", "course -", Shelf([("e", Course([]))]))

    def test_width_and_most_of_the_desk(self):
        for width in (0, 1):
            for most in range(1, 9):
                shelf = Shelf(SHELF.things, width, most)
                self.check("width", str(width), shelf)
                self.check("most", str(most), shelf)
                paper = mother_of(SHEET, width, most)
                self.check("mother a", " ".join(map(str, paper.dyeing)) if paper else "-", shelf)
                self.check("size a", str(size_of(least_size(SHEET, width).dyeing)), shelf)
                rows = fewest_strangers(SHEET, width, most).rows
                self.check("strangers a", " ".join(map(str, rows)) or "-", shelf)

    def test_against_the_parts(self):
        kinds = set()
        for chance in chances(9300, 120):
            sheet = some_gapped(chance, chance.randrange(2), 5)
            width, most = chance.randrange(2), chance.randrange(1, 6)
            shelf = Shelf([("a", sheet)], width, most)
            place, other = (chance.randrange(len(sheet.places) + 1) for _ in range(2))
            told = told_or_error(answer_of, shelf, f"same a {place} {other}")
            kinds.add(told if isinstance(told, str) else told[0])
            if max(place, other) == len(sheet.places):
                self.assertEqual(told, ("NoPlace", (len(sheet.places),)))
            elif place == other:
                self.assertEqual(told, ("Twice", (sheet.places[place],)))
            else:
                saying = Same(sheet.places[place], sheet.places[other])
                self.assert_answered(told, told_or_error(answer, sheet, width, most, saying))
            row, beside = (chance.randrange(len(sheet.rows) + 1) for _ in range(2))
            told = told_or_error(answer_of, shelf, f"alike a {row} {beside}")
            if row == beside:
                self.assertEqual(told, ("Twice", (row,)))
            else:
                self.assert_answered(told, told_or_error(answer, sheet, width, most, AlikeRows(row, beside)))
            for gap in sheet.gaps:
                cells = sorted({plain_loose(sheet, cells, [sheet.gaps.index(gap)])[0]
                                for cells in plain_standing(sheet, width, most)})
                self.assertEqual(answer_of(shelf, f"stand a {gap[0]} {gap[1]}"), " ".join(cells) or "-")
                self.assertIs(bool(cells), bool(fillings(sheet, width, most)))
        self.assertLessEqual({"sure", "never", "open", "NoPlace", "Twice", "BadSheet", "Impossible"}, kinds)

    def assert_answered(self, told, wanted):
        if isinstance(wanted, tuple):
            self.assertEqual(told, wanted)
        else:
            self.assertEqual(told, wanted.kind)

    def test_courses(self):
        for chance in chances(9310, 60):
            one, other = (some_course(chance, "acik", chance.randrange(3), falls=chance.random() < 0.2) for _ in range(2))
            shelf = Shelf([("x", one), ("y", other)])
            word = "".join(chance.choices("acik", k=chance.randrange(13)))
            self.assertEqual(answer_of(shelf, f"done y {word}"), other.done(word))
            paper = told_or_error(same_on_all, one, other, "ik")
            told = told_or_error(answer_of, shelf, "parts x y ik")
            self.assertEqual(told, paper if isinstance(paper, tuple) else "-" if paper else paper.word)
            paper = told_or_error(fallen, one, "aik")
            told = told_or_error(answer_of, shelf, "fallen x aik")
            self.assertEqual(told, paper if isinstance(paper, tuple) else "-" if paper else f"{paper.one} {paper.other}")

    def test_names_and_kinds(self):
        for line in ("show x", "size x", "mother x", "same x 99 99", "alike x 0 0", "strangers x", "stand x 9 x", "done x a",
                     "fallen x a", "parts x y a", "parts a x a", "parts x a a"):
            self.assertEqual(error_of(answer_of, SHELF, line), ("NoName", ("x",)), line)
        for line in ("size c", "mother c", "same c 99 99", "alike c 0 0", "strangers c", "stand c 9 x", "done a a", "fallen a a",
                     "parts c a a", "parts a c a", "parts a a a"):
            self.assertEqual(error_of(answer_of, SHELF, line), ("Misfit", ("kinds",)), line)

    def test_errors_of_the_parts(self):
        for line, name, fields in [
                ("same g 4 9", "NoPlace", (4,)), ("same g 0 9", "NoPlace", (9,)), ("same g 3 3", "Twice", ((1, 1),)),
                ("same g 0 1", "BadSheet", ("gaps",)), ("alike g 1 1", "Twice", (1,)), ("alike g 0 7", "BadSheet", ("gaps",)),
                ("alike a 0 7", "NoRow", (7,)), ("size g", "BadSheet", ("gaps",)), ("mother g", "BadSheet", ("gaps",)),
                ("strangers g", "BadSheet", ("gaps",)), ("stand g 2 x", "NoRow", (2,)), ("stand g 0 x", "NoLanguage", ("x",)),
                ("stand g 0 one", "Misfit", ("gap",)), ("stand a 0 one", "Misfit", ("gap",)), ("stand n 0 two", "TooMany", ("places", 8)),
                ("parts c d a", "BadCourse", ("falls",)), ("fallen d a", "BadCourse", ("falls",))]:
            self.assertEqual(error_of(answer_of, SHELF, line), (name, fields), line)
        with self.assertRaises(Impossible) as caught:
            answer_of(Shelf(SHELF.things, 0, 3), "same a 0 1")
        self.assertIsInstance(caught.exception.paper, NoMother)
        self.assertIsInstance(mother_of(SHEET, 1, 3), Mother)
        wide = Shelf([("n", Sheet(["x"], [["a" * 9]])), ("r", Sheet(["x"], [["a"]] * 6)), ("f", Sheet.read("a b : sss . / ss ab"))])
        for line, fields in [("size n", ("places", 8)), ("mother n", ("places", 8)), ("same n 0 1", ("places", 8)),
                             ("strangers n", ("places", 8)), ("strangers r", ("rows", 5)), ("stand f 0 b", ("fillings", 60))]:
            self.assertEqual(error_of(answer_of, wide, line), ("TooMany", fields))

    def test_lines_that_are_no_asks(self):
        for line in LINES:
            word = line.split(" ")[0]
            if word in DEEDS and word not in ASKS:
                self.assertEqual(error_of(answer_of, SHELF, line), ("BadText", (0, 0)))
        for line, item in [("width 1", 1), ("most 3 3", 1), ("width ", 1), ("names a", 1), ("foo", 0), ("", 0), ("size", 1),
                           ("size a a", 2), ("same a 0", 3), ("put", 0), ("parts c c ki", 3), ("done c", 2)]:
            self.assertEqual(error_of(answer_of, SHELF, line), ("BadText", (0, item)), line)
        for value in ODD:
            if not isinstance(value, str):
                self.assertEqual(error_of(answer_of, SHELF, value), ("BadText", (0, 0)))

    def test_wrong_shelves(self):
        for value in ODD + [SHELF.things, SHEET, Shelf]:
            self.assertEqual(error_of(answer_of, value, value), ("BadDesk", ("shelf",)))
