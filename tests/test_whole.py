"""What the parts of the program tell of one another."""

import unittest

from foretongue.alike import same_on_all
from foretongue.answers import Never, Open, Sure, answer
from foretongue.asking import key_gaps
from foretongue.check_answers import shows_answer
from foretongue.check_gaps import shows_filled, shows_key
from foretongue.check_mothers import shows_barring, shows_mother
from foretongue.check_within import shows_layers, shows_split, shows_strangers
from foretongue.courses import Course
from foretongue.crossings import best, struck
from foretongue.desk import Desk
from foretongue.dyeings import is_mother, refines, size_of
from foretongue.errors import Impossible
from foretongue.fallen import Fallen, fallen
from foretongue.families import from_sheet
from foretongue.fates import fate, fate_at
from foretongue.gaps import fillings, loose
from foretongue.histories import history_sheet, own_dyeing
from foretongue.mothers import coarsest_mothers, many_mothers, mothers
from foretongue.orders import possible_orders
from foretongue.pairs import Pairs
from foretongue.refusing import barring_rows, least_size, mother_of
from foretongue.rules import split_history, splits
from foretongue.sayings import Same, Sizes, holds
from foretongue.sheets import Sheet
from foretongue.shifts import Shift
from foretongue.stories import parting, replay
from foretongue.strangers import all_strangers, fewest_strangers, is_shut, layers
from foretongue.sureties import pairs_told, sure_lots
from foretongue.trees import tree_of
from foretongue.zero import zero
from tests.helper import chances, some_course
from tests.plain_mothers import some_whole_sheet

OLD = Course([])


class Fates(unittest.TestCase):
    def test_what_is_gone_and_what_can_be_known(self):
        sorts = set()
        for chance in chances(9700, 200):
            course = some_course(chance, "acik", chance.randrange(1, 3))
            told = fate(course, "aik", "a", "i")
            for sort, pair in [("gone", told.gone), ("kept", told.kept), ("moved", told.moved)]:
                if pair is not None and len(pair[0]) <= 4:
                    sorts.add(sort)
                    self.assertEqual(fate_at(course, *pair), sort)
                    place = next(at for at in range(len(pair[0])) if pair[0][at] != pair[1][at])
                    self.check_history(course, pair, place, sort)
        self.assertEqual(sorts, {"gone", "kept", "moved"})

    def check_history(self, course, pair, place, sort):
        """What is gone is one sound for all that the new language tells; the old one tells it apart."""
        new, both = (history_sheet(names, courses, pair)
                     for names, courses in [(["new"], [course]), (["old", "new"], [OLD, course])])
        other = len(pair[0]) + place
        self.assertIs(zero(new)[place] == zero(new)[other], sort != "kept")
        self.assertIs(new.rows[0] == new.rows[1], sort == "gone")
        self.assertNotEqual(zero(both)[place], zero(both)[other])
        if len(course) == 1:
            self.assertIs(is_mother(both, 1, own_dyeing(pair)), True)
        told = answer(new, 0, 8, Same((0, place), (1, place)))
        self.assertEqual(told.kind, "never" if sort == "kept" else "open")

    def test_words_that_fall_together_are_one_row(self):
        for chance in chances(9710, 60):
            course = some_course(chance, "ack", chance.randrange(3))
            told = fallen(course, "ak")
            if isinstance(told, Fallen) and len(told.one) <= 6:
                sheet = history_sheet(["x"], [course], [told.one, told.other])
                self.assertEqual(sheet.rows[0], sheet.rows[1])
                self.assertEqual(sheet.word(0, "x"), told.outcome)
                outcomes = Pairs.of(Course(course.shifts[:1]), [told.one, told.other])
                self.assertIn((0,), possible_orders(outcomes))

    def test_rules_of_alike_courses(self):
        for chance in chances(9720, 40):
            one = some_course(chance, "ack", 2)
            other = one.swapped(0)
            if same_on_all(one, other, "ak"):
                self.assertEqual(splits(one, "ak", "c", "k"), splits(other, "ak", "c", "k"))
                self.assertEqual(split_history(one, "ak", "c", "k")[-1], split_history(other, "ak", "c", "k")[-1])
            self.assertIs(shows_split(one, "ak", "c", "k", splits(one, "ak", "c", "k")), True)


class OneSheet(unittest.TestCase):
    def test_asked_by_all_parts_and_through_a_desk(self):
        kinds = set()
        for chance in chances(9730, 60):
            sheet = some_whole_sheet(chance, 6)
            width, most = chance.randrange(2), chance.randrange(1, 7)
            if len(sheet.rows) <= 5:
                desk = Desk()
                desk.told(f"put a sheet {sheet}", f"width {width}", f"most {most}")
                every = [dyeing for dyeing in mothers(sheet, width, 8) if size_of(dyeing) <= most]
                kinds.add(bool(every))
                self.check_mothers(sheet, width, most, desk, every)
                self.check_rows(sheet, width, most, desk, every)
                self.check_places(sheet, width, most, desk, every)
                self.assertEqual(replay(desk.story), desk)
        self.assertEqual(kinds, {True, False})

    def check_mothers(self, sheet, width, most, desk, every):
        told = mother_of(sheet, width, most)
        self.assertIs(bool(told), bool(every))
        self.assertEqual(desk("mother a"), " ".join(map(str, told.dyeing)) if told else "-")
        self.assertEqual(desk("size a"), str(size_of(least_size(sheet, width).dyeing)))
        self.assertIs(int(desk("size a")) <= most, bool(told))
        self.assertEqual(many_mothers(sheet, width, most), len(every))
        self.assertTrue(shows_mother(sheet, width, most, told) and shows_barring(sheet, width, most, barring_rows(sheet, width, most)))
        self.assertEqual([one.dyeing for one in fillings(sheet, width, most)], every[:1])
        for dyeing in every:
            self.assertTrue(any(refines(dyeing, least) for least in coarsest_mothers(sheet, width)))

    def check_rows(self, sheet, width, most, desk, every):
        told, two = fewest_strangers(sheet, width, most), layers(sheet, width, most)
        self.assertTrue(shows_strangers(sheet, width, most, told) and shows_layers(sheet, width, most, two))
        self.assertEqual(desk("strangers a"), " ".join(map(str, told.rows)) or "-")
        self.assertIs(told.rows == (), bool(every))
        self.assertIs(is_shut(sheet, width, most, list(range(len(sheet.rows)))), not every)
        bars = barring_rows(sheet, width, most)
        self.assertEqual([lot for lot, _ in told.bars][:1], [] if bars else [bars.rows])
        if 0 < len(told.rows) < len(sheet.rows):
            desk.told("strike a " + desk("strangers a"))
            self.assertEqual(desk("mother a"), " ".join(map(str, told.dyeing)))
            self.assertEqual(desk("strangers a"), "-")
            desk.undo()
        if every:
            self.assertEqual((all_strangers(sheet, width, most), bool(two)), (((),), True))

    def check_places(self, sheet, width, most, desk, every):
        many = len(sheet.places)
        if not every:
            with self.assertRaises(Impossible) as caught:
                pairs_told(sheet, width, most)
            self.assertTrue(shows_mother(sheet, width, most, caught.exception.paper))
            return
        words = {(one, other): word for one, other, word in pairs_told(sheet, width, most)}
        lots = sure_lots(sheet, width, most)
        for one, other in words:
            saying = Same(sheet.places[one], sheet.places[other])
            told = {holds(saying, sheet, dyeing) for dyeing in every}
            paper = answer(sheet, width, most, saying)
            self.assertTrue(shows_answer(sheet, width, most, saying, paper))
            self.assertIs(type(paper), Open if len(told) > 1 else Sure if True in told else Never)
            self.assertEqual((desk(f"same a {one} {other}"), paper.kind), (words[(one, other)],) * 2)
            self.assertIs(any(one in lot and other in lot for lot in lots), paper.kind == "sure")
        self.assertEqual(sum(map(len, lots)), many)
        self.assertEqual(answer(sheet, width, most, Sizes(size_of(least_size(sheet, width).dyeing))).kind, "sure")

    def test_a_cell_struck_and_asked_for(self):
        asked = 0
        for chance in chances(9740, 60):
            sheet = some_whole_sheet(chance, 5, languages=2)
            row, language = chance.randrange(len(sheet.rows)), sheet.languages[-1]
            if len(sheet.languages) > 1:
                desk = Desk()
                desk.told(f"put a sheet {sheet}", "most 4", f"fill a {row} {language} .")
                struck_sheet = desk.shelf.thing("a")
                told = desk(f"stand a {row} {language}").split(" ")
                asked += told != ["-"]
                if mother_of(sheet, 1, 4):
                    self.assertIn(loose(struck_sheet, [sheet.cell(row, language)])[0], told)
                for one in fillings(struck_sheet, 1, 4):
                    self.assertTrue(shows_filled(struck_sheet, 1, 4, one))
                    self.assertIn(one.cells[0], told)
                if told != ["-"]:
                    self.assertTrue(shows_key(struck_sheet, 1, 4, key_gaps(struck_sheet, 1, 4)))
        self.assertGreater(asked, 10)

    def test_families_of_mothers(self):
        for chance in chances(9750, 60):
            sheet = some_whole_sheet(chance, 5, letters="as", languages=4)
            for dyeing in mothers(sheet, 1, 8)[:5]:
                family = from_sheet(sheet, 1, dyeing)
                self.assertIs(bool(tree_of(family)), len(struck(family).numbers) == 0)
                self.assertIs(bool(tree_of(family)), best(family).many == len(family))


class AnEvening(unittest.TestCase):
    def test_eleven_lines(self):
        soft = Course([Shift("k", "c", right="i")])
        sheet = history_sheet(["old", "new"], [OLD, soft], ["ki", "ka"])
        gapped = sheet.with_cell(1, "new", None)
        desk = Desk()
        lines = [f"put words sheet {sheet}", f"put soft course {soft}", "size words", "same words 0 2", "strangers words",
                 "fill words 1 new .", "most 3", "stand words 1 new", "fallen soft cik", "done soft kiki", "show words"]
        told = desk.told(*lines)
        self.assertEqual(told, (
            "1", "2", str(size_of(least_size(sheet, 1).dyeing)), answer(sheet, 1, 8, Same((0, 0), (1, 0))).kind,
            " ".join(map(str, fewest_strangers(sheet, 1, 8).rows)) or "-", "1", "3",
            " ".join(one.cells[0] for one in fillings(gapped, 1, 3)), " ".join(fallen(soft, "cik").parts[:2]),
            soft.done("kiki"), f"sheet {gapped}"))
        self.assertEqual(told[2:5] + told[8:10], ("3", "open", "-", "ci ki", "cici"))
        self.assertEqual(desk.story, (lines[0], lines[1], lines[5], lines[6]))
        twin = replay(desk.story)
        self.assertEqual(twin.tried(*lines[7:]), told[7:])
        self.assertEqual((desk.undo(), desk.undo()), (lines[6], lines[5]))
        self.assertEqual(desk.told(*lines[2:5]), told[2:5])
        self.assertEqual((parting(desk, twin), desk == twin), (2, False))
        self.assertEqual(desk.shelf.thing("words"), sheet)
        self.assertEqual((desk.redo(), desk.redo(), desk == twin), (lines[5], lines[6], True))
        self.assertIs(type(desk.shelf.thing("words")), Sheet)
