import unittest

from foretongue.check_within import shows_layers, shows_rule, shows_split, shows_strangers
from foretongue.courses import Course
from foretongue.rules import Ruled, Split, splits
from foretongue.sheets import Sheet
from foretongue.shifts import Shift
from foretongue.strangers import Layers, NoLayers, Strangers, fewest_strangers, layers
from foretongue.within import Against, OneRule, by_one_rule
from tests.helper import ODD, bent_parts, chances, error_of, lists_for_tuples, plain_outcome, plain_words, some_course, strangers
from tests.plain_mothers import (check_errors, is_number, mothers_of_rows, no_end, orders_of_places, plain_tree, tuples)
from tests.plain_strangers import all_shut, is_layers, is_no_layers, is_strangers, lots, others, some_rows
from tests.plain_within import against_in, around, places_in, some_words, surroundings_of
from tests.test_rules import FOUR, DROP, told_plainly

THREE = Sheet(["x", "y"], [["sa", "sa"], ["si", "zi"], ["si", "si"]])
SOFT = Course([Shift("k", "c", right="i"), Shift("i", "e")])


def any_bars(chance, sheet, width, most, told):
    """Bars of some lots that are shut, in any order, with trees by any order of places."""
    bars = []
    for lot in told:
        part = sheet.of_rows(lot)
        bars.append([list(lot), plain_tree(part, width, most, orders_of_places(chance, part), no_end)])
    return bars


class CheckStrangers(unittest.TestCase):
    def test_any_rows_and_bars(self):
        found = {True: 0, False: 0}
        for chance in chances(7100, 120):
            sheet = some_rows(chance)
            width, most = chance.randrange(2), chance.randrange(1, 4)
            shut = all_shut(sheet, width, most)
            told = fewest_strangers(sheet, width, most)
            self.assertIs(shows_strangers(sheet, width, most, told), True)
            for _ in range(6):
                rows = chance.choice([lot for lot in lots(len(sheet.rows)) if others(sheet, lot) not in shut])
                dyeing = chance.choice(mothers_of_rows(sheet, width, most, others(sheet, rows)))
                bars = any_bars(chance, sheet, width, most, chance.sample(shut, chance.randrange(len(shut) + 1)))
                wanted = is_strangers(sheet, width, most, rows, dyeing, tuples(bars))
                found[wanted] += 1
                self.assertIs(shows_strangers(sheet, width, most, Strangers(rows, list(dyeing), bars)), wanted)
                self.assertIs(shows_strangers(sheet, width, most, Strangers(rows, dyeing, told.bars)),
                              len(rows) == len(told.rows))
        self.assertGreater(min(found.values()), 50)

    def test_any_layers(self):
        kinds = set()
        for chance in chances(7110, 120):
            sheet = some_rows(chance)
            width, most = chance.randrange(2), chance.randrange(1, 4)
            shut = all_shut(sheet, width, most)
            self.assertIs(shows_layers(sheet, width, most, layers(sheet, width, most)), True)
            for _ in range(4):
                bars = any_bars(chance, sheet, width, most, chance.sample(shut, chance.randrange(len(shut) + 1)))
                wanted = is_no_layers(sheet, width, most, tuples(bars))
                kinds.add(("no", wanted))
                self.assertIs(shows_layers(sheet, width, most, NoLayers(bars)), wanted)
                rows = chance.choice(lots(len(sheet.rows)))
                one, other = (chance.choice(mothers_of_rows(sheet, width, most, lot) or [(0,)])
                              for lot in (rows, others(sheet, rows)))
                wanted = is_layers(sheet, width, most, rows, one, other)
                kinds.add(("two", wanted))
                self.assertIs(shows_layers(sheet, width, most, Layers(rows, list(one), other)), wanted)
        self.assertEqual(len(kinds), 4)

    def test_bent_strangers(self):
        right = 0
        for sheet, width, most in [(THREE, 1, 3), (Sheet(["x"], [["a"], ["ab"], ["b"]]), 0, 1), (THREE, 1, 4)]:
            told = fewest_strangers(sheet, width, most)
            for bent in bent_parts(told.parts):
                if len(bent) == 3:
                    wanted = is_strangers(sheet, width, most, *tuples(bent))
                    right += wanted
                    self.assertIs(shows_strangers(sheet, width, most, Strangers(*bent)), wanted, bent)
        self.assertGreater(right, 5)

    def test_bent_layers(self):
        right = 0
        for sheet, most in [(THREE, 3), (Sheet(["x"], [["a"], ["bc"], ["b"]]), 1), (Sheet(["x"], [["ab"]]), 2)]:
            told = layers(sheet, 1, most)
            for bent in bent_parts(told.parts):
                if isinstance(told, Layers) and len(bent) == 3:
                    wanted = is_layers(sheet, 1, most, *tuples(bent))
                    self.assertIs(shows_layers(sheet, 1, most, Layers(*bent)), wanted, bent)
                    right += wanted
                if isinstance(told, NoLayers) and len(bent) == 1:
                    wanted = is_no_layers(sheet, 1, most, *tuples(bent))
                    self.assertIs(shows_layers(sheet, 1, most, NoLayers(*bent)), wanted, bent)
                    right += wanted
        self.assertGreater(right, 3)

    def test_bars_of_no_rows(self):
        self.assertIs(shows_strangers(THREE, 1, 4, Strangers([], [0, 1, 0, 2, 0, 3], [[[], (0, 1)]])), False)
        self.assertIs(shows_strangers(THREE, 1, 4, Strangers([], [0, 1, 0, 2, 0, 3], [[[], None]])), False)
        self.assertIs(shows_strangers(THREE, 1, 4, Strangers([], [0, 1, 0, 2, 0, 3], [])), True)
        self.assertIs(shows_layers(THREE, 1, 4, NoLayers([])), False)

    def test_beyond_the_bounds(self):
        many = Sheet(["x"], [["ab"]] * 6)
        self.assertIs(shows_strangers(many, 1, 2, Strangers([], [0, 1] * 6, [])), True)
        self.assertIs(shows_layers(many, 1, 2, Layers([0, 5], [0, 1] * 2, [0, 1] * 4)), True)
        bars = [[[row], (0, [(1, [(0, 1)])])] for row in range(6)]
        self.assertIs(shows_strangers(many, 1, 1, Strangers(range(6), [], bars)), False)
        self.assertIs(shows_strangers(many, 1, 1, Strangers(list(range(6)), [], bars)), True)
        self.assertIs(shows_strangers(many, 1, 1, Strangers(list(range(6)), [], bars[:5])), False)
        self.assertIs(shows_layers(many, 1, 1, NoLayers(bars[3:4])), True)

    def test_any_other_value(self):
        told, two, none = fewest_strangers(THREE, 1, 3), layers(THREE, 1, 3), layers(THREE, 1, 2)
        for value in ODD + strangers(Strangers, *told.parts) + [two, none]:
            self.assertIs(shows_strangers(THREE, 1, 3, value), False)
        for value in ODD + strangers(Layers, *two.parts) + [told, none]:
            self.assertIs(shows_layers(THREE, 1, 3, value), False)
        for value in ODD + strangers(NoLayers, *none.parts) + [told, two]:
            self.assertIs(shows_layers(THREE, 1, 2, value), False)
        self.assertIs(shows_layers(THREE, 1, 2, none), True)

    def test_wrong(self):
        for call in (shows_strangers, shows_layers):
            check_errors(self, call, True, 1)


def is_one_rule(words, sound, other, wide, one, its):
    return not against_in(words, sound, other, wide) and (one, its) == tuple(
        surroundings_of(words, sign, wide) for sign in (sound, other))


def is_place(value):
    return type(value) is tuple and len(value) == 2 and all(map(is_number, value))


def is_against(words, sound, other, wide, one, its):
    if not is_place(one) or not is_place(its):
        return False
    return (one, its) in against_in(words, sound, other, wide)


class CheckRules(unittest.TestCase):
    def test_any_places(self):
        found = {True: 0, False: 0}
        for chance in chances(7120, 120):
            words = some_words(chance, "acik", 5, 3)
            for wide in (1, 2):
                told = by_one_rule(words, "k", "c", wide)
                found[bool(told)] += 1
                self.assertIs(shows_rule(words, "k", "c", wide, told), True)
                self.assertIs(shows_rule(words, "c", "k", wide, told), bool(told) and told.one == told.other)
                pairs = against_in(words, "k", "c", wide)
                for one in places_in(words, "k") + [(0, 0)]:
                    for its in places_in(words, "c") + [(0, 1)]:
                        self.assertIs(shows_rule(words, "k", "c", wide, Against(list(one), its)), (one, its) in pairs)
        self.assertGreater(min(found.values()), 5)

    def test_bent_rules(self):
        for words, wide in [(["ki", "ce", "ka"], 1), (["kie", "cia"], 2), (["kie", "cia"], 1), (["", "k"], 1)]:
            told = by_one_rule(words, "k", "c", wide)
            for bent in bent_parts(told.parts):
                if len(bent) == 2:
                    right = is_one_rule if told else is_against
                    made = OneRule if told else Against
                    wanted = right(words, "k", "c", wide, *tuples(bent))
                    self.assertIs(shows_rule(words, "k", "c", wide, made(*bent)), wanted, bent)
        self.assertIs(shows_rule(["ke", "ce"], "k", "c", 1, OneRule([("#", "e")], [("#", "e")])), False)

    def test_places_from_behind(self):
        self.assertIs(shows_rule(["k", "c"], "k", "c", 1, Against((0, 0), (1, 0))), True)
        for one, other in [((0, -1), (1, 0)), ((0, 0), (1, -1)), ((-2, 0), (1, 0)), ((0, 0), (-1, 0)), ((0, 1), (1, 0)),
                           ((0, 0), (2, 0))]:
            self.assertIs(shows_rule(["k", "c"], "k", "c", 1, Against(one, other)), False)
        for one, other in [(("k", -1), ("c", 0)), (("k", 0), ("c", -1)), (("k", 1), ("c", 0)), (("k", 0), ("c", 1))]:
            self.assertIs(shows_split(Course([]), "ck", "k", "c", Split(one, other)), False)
        self.assertIs(shows_split(Course([]), "ck", "k", "c", Split(("k", 0), ("c", 0))), True)

    def test_more_words_than_are_asked(self):
        self.assertIs(shows_rule(["k"] * 13 + ["c"], "c", "k", 1, Against((13, 0), (12, 0))), True)
        self.assertIs(shows_rule(["k"] * 13, "c", "k", 1, OneRule([], [("#", "#")])), True)

    def test_wrong_rules(self):
        for value in ODD + [["a", "A"], "ab"]:
            if value not in (["a"], ("a", "b")):
                self.assertEqual(error_of(shows_rule, value, value, value, value, None), ("BadWord", ("words",)))
        for value in ODD + ["", "ab"]:
            self.assertEqual(error_of(shows_rule, ["a"], value, value, 3, None), ("BadWord", ("sound",)))
            self.assertEqual(error_of(shows_rule, ["a"], "a", value, 3, None), ("BadWord", ("other",)))
        for value in [0, 3, True, None, "1", 1.0]:
            self.assertEqual(error_of(shows_rule, ["a"], "a", "a", value, None), ("BadNumber", ("wide",)))
        self.assertEqual(error_of(shows_rule, ["a"], "a", "a", 1, None), ("Twice", ("a",)))

    def test_any_words_that_split(self):
        found = {True: 0, False: 0}
        for chance in chances(7130, 30):
            course = some_course(chance, "acik", chance.randrange(3))
            sound, other = chance.sample("acik", 2)
            told = splits(course, "ak", sound, other)
            self.assertIs(shows_split(course, "ak", sound, other, told), True)
            met = {sign: [(word, place) for word in plain_words("ak", 4) + ["akakakakakak"]
                          for place, made in enumerate(plain_outcome(course, word)) if made == sign] for sign in (sound, other)}
            for one in met[sound][:12]:
                for its in met[other][:12]:
                    sides = [around(plain_outcome(course, word), place, 1) for word, place in (one, its)]
                    found[sides[0] == sides[1]] += 1
                    self.assertIs(shows_split(course, "ak", sound, other, Split(list(one), its)), sides[0] == sides[1])
        self.assertGreater(min(found.values()), 100)

    def test_bent_splits(self):
        for course, stock, sound, other in [(SOFT, "eik", "c", "k"), (SOFT, "ik", "c", "e"), (Course([]), "a", "a", "b")]:
            told = splits(course, stock, sound, other)
            self.assertEqual(told, told_plainly(course, stock, sound, other))
            for bent in bent_parts(told.parts):
                if isinstance(told, Ruled) and len(bent) == 1:
                    wanted = tuples(bent[0]) == told.rows
                    self.assertIs(shows_split(course, stock, sound, other, Ruled(*bent)), wanted, bent)
                if isinstance(told, Split) and len(bent) == 2:
                    wanted = self.is_split(course, stock, sound, other, *tuples(bent))
                    self.assertIs(shows_split(course, stock, sound, other, Split(*bent)), wanted, bent)

    def is_split(self, course, stock, sound, other, one, its):
        sides = []
        for told, sign in ((one, sound), (its, other)):
            if type(told) is not tuple or len(told) != 2 or type(told[0]) is not str or not is_number(told[1]):
                return False
            if not set(told[0]) <= set(stock) or len(told[0]) > 12 or not 0 <= told[1] < len(told[0]):
                return False
            outcome = plain_outcome(course, told[0])
            if outcome[told[1]] != sign:
                return False
            sides.append(around(outcome, told[1], 1))
        return sides[0] == sides[1]

    def test_told_splits(self):
        told = ("kikikikikiki", 10)
        self.assertIs(shows_split(SOFT, "eik", "c", "k", Split(told, ("kikikikikike", 10))), True)
        self.assertIs(shows_split(SOFT, "ik", "c", "k", Split(told, ("kikikikikike", 10))), False)
        self.assertIs(shows_split(SOFT, "eik", "c", "k", Split(("kikikikikikie", 10), ("kikikikikike", 10))), False)
        self.assertIs(shows_split(SOFT, "eik", "c", "k", Split(("ki", False), ("ke", 0))), False)
        self.assertIs(shows_split(SOFT, "eik", "c", "k", Ruled([])), False)

    def test_any_other_value(self):
        ruled, split = splits(Course([]), "a", "a", "b"), splits(SOFT, "eik", "c", "k")
        one, against = by_one_rule(["ki", "ce"], "k", "c"), by_one_rule(["ke", "ce"], "k", "c")
        for value in ODD + strangers(Ruled, *ruled.parts) + [split, one, against]:
            self.assertIs(shows_split(Course([]), "a", "a", "b", value), False)
        for value in ODD + strangers(Split, *split.parts) + [ruled, one, against]:
            self.assertIs(shows_split(SOFT, "eik", "c", "k", value), False)
        for value in ODD + strangers(OneRule, *one.parts) + [ruled, split, against]:
            self.assertIs(shows_rule(["ki", "ce"], "k", "c", 1, value), False)
        for value in ODD + strangers(Against, *against.parts) + [ruled, split, one]:
            self.assertIs(shows_rule(["ke", "ce"], "k", "c", 1, value), False)
        self.assertIs(shows_rule(["ki", "ce"], "k", "c", 1, OneRule(*lists_for_tuples(one.parts))), True)

    def test_wrong_splits(self):
        for value in ODD:
            self.assertEqual(error_of(shows_split, value, value, value, value, None), ("BadCourse", ("course",)))
            if value != "a":
                self.assertEqual(error_of(shows_split, DROP, value, value, value, None), ("BadStock", ("stock",)))
                self.assertEqual(error_of(shows_split, DROP, "abc", "b", value, None), ("BadWord", ("other",)))
                self.assertEqual(error_of(shows_split, DROP, "abc", value, value, None), ("BadWord", ("sound",)))
        self.assertEqual(error_of(shows_split, DROP, "abc", "a", "a", None), ("Twice", ("a",)))
        self.assertEqual(error_of(shows_split, DROP, "abc", "a", "b", None), ("BadCourse", ("falls",)))
        self.assertEqual(error_of(shows_split, FOUR, "abc", "a", "b", None), ("TooMany", ("shifts", 3)))
        wide = Course(FOUR.shifts[:3])
        self.assertEqual(error_of(shows_split, wide, "abc", "a", "b", Split(("a", 0), ("b", 0))), ("TooMany", ("words", 4000)))
