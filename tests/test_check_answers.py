import unittest

from foretongue.answers import AtOnce, Clash, Never, Open, Sure, answer, kept_at_once
from foretongue.check_answers import shows_answer, shows_at_once, shows_rows
from foretongue.sayings import AlikeRows, Not, Same, Sizes
from foretongue.sheets import Sheet
from foretongue.sureties import Rows, fewest_rows
from tests.helper import ODD, bent_parts, chances, error_of, lists_for_tuples, strangers
from tests.plain_mothers import (NINE, all_dyeings, is_mother_told, no_end, orders_of_places, plain_holds, plain_mothers,
                                 plain_right_tree, plain_tree, some_saying, some_whole_sheet, tuples)
from tests.test_answers import SHEET, aim, clash_ends, errors_of_saying
from tests.test_sureties import against, sets_asked, told_on


def is_open(sheet, width, most, saying, one, other):
    return all(is_mother_told(sheet, width, most, dyeing) and plain_holds(saying, sheet, dyeing) is truth
               for dyeing, truth in ((one, True), (other, False)))


def is_clash(sheet, width, most, sayings, numbers, tree, others):
    if type(numbers) is not tuple or any(type(number) is not int for number in numbers):
        return False
    if numbers != tuple(sorted(set(numbers))) or not set(numbers) <= set(range(len(sayings))):
        return False
    if type(others) is not tuple or len(others) != len(numbers):
        return False
    for number, dyeing in zip(numbers, others):
        kept = [sayings[other] for other in numbers if other != number]
        if not is_mother_told(sheet, width, most, dyeing) or not all(plain_holds(one, sheet, dyeing) for one in kept):
            return False
    return plain_right_tree(sheet, width, most, tree, clash_ends(sheet, most, [sayings[number] for number in numbers]))


def is_rows(sheet, width, most, saying, rows, tree, others):
    if type(rows) is not tuple or any(type(row) is not int for row in rows):
        return False
    sets = sets_asked(sheet, saying)
    if rows not in sets or type(others) is not tuple or len(others) != sets.index(rows):
        return False
    for ahead, dyeing in zip(sets, others):
        part = sheet.of_rows(ahead)
        if not is_mother_told(part, width, most, dyeing) or plain_holds(told_on(saying, ahead), part, dyeing):
            return False
    part = sheet.of_rows(rows)
    return plain_right_tree(part, width, most, tree, aim(part, most, told_on(saying, rows), True))


class CheckAnswer(unittest.TestCase):
    def test_any_order_of_places(self):
        right = {True: 0, False: 0}
        for chance in chances(2800, 120):
            sheet = some_whole_sheet(chance, 5)
            width, most, saying = chance.randrange(2), chance.randrange(1, 6), some_saying(chance, sheet, 2)
            truths = {plain_holds(saying, sheet, dyeing) for dyeing in plain_mothers(sheet, width, most)}
            for truth, made in ((True, Sure), (False, Never)):
                if truths <= {truth}:
                    right[truth] += 1
                    tree = plain_tree(sheet, width, most, orders_of_places(chance, sheet), aim(sheet, most, saying, truth))
                    for told in range(1, 9):
                        wanted = plain_right_tree(sheet, width, told, tree, aim(sheet, told, saying, truth))
                        self.assertIs(shows_answer(sheet, width, told, saying, made(lists_for_tuples(tree))), wanted)
                        wanted = plain_right_tree(sheet, width, told, tree, aim(sheet, told, saying, not truth))
                        other = Never if made is Sure else Sure
                        self.assertIs(shows_answer(sheet, width, told, saying, other(tree)), wanted)
        self.assertGreater(min(right.values()), 20)

    def test_any_two_dyeings(self):
        for chance in chances(2810, 15):
            sheet = some_whole_sheet(chance, 4)
            width, most, saying = chance.randrange(2), chance.randrange(1, 6), some_saying(chance, sheet, 1)
            for one in all_dyeings(len(sheet.places)):
                for other in all_dyeings(len(sheet.places)):
                    wanted = is_open(sheet, width, most, saying, one, other)
                    self.assertIs(shows_answer(sheet, width, most, saying, Open(list(one), other)), wanted)

    def test_bent_papers(self):
        bent_ones, right_ones = 0, 0
        for chance in chances(2820, 40):
            sheet = some_whole_sheet(chance, 3)
            width, most, saying = chance.randrange(2), chance.randrange(1, 4), some_saying(chance, sheet, 1)
            if plain_mothers(sheet, width, most):
                told = answer(sheet, width, most, saying)
                self.assertIs(shows_answer(sheet, width, most, saying, told), True)
                for bent in bent_parts(told.parts):
                    if len(bent) == len(told.parts):
                        if told.kind == "open":
                            wanted = is_open(sheet, width, most, saying, *tuples(bent))
                        else:
                            ends = aim(sheet, most, saying, bool(told))
                            wanted = plain_right_tree(sheet, width, most, tuples(bent[0]), ends)
                        bent_ones, right_ones = bent_ones + 1, right_ones + wanted
                        self.assertIs(shows_answer(sheet, width, most, saying, type(told)(*bent)), wanted, bent)
        self.assertGreater(bent_ones, 3000)
        self.assertGreater(right_ones, 0)

    def test_leaves(self):
        """Each pair as the only leaf, None on all other ways: right just where it bars what is dyed."""
        right, saying = 0, Not(Sizes(12))
        for chance in chances(2830, 40):
            sheet = some_whole_sheet(chance, 4, letters="as-")
            width, many = chance.randrange(2), len(sheet.places)
            for dyeing in all_dyeings(many):
                for upto in range(1, many + 1):
                    for place in range(many):
                        for other in range(-1, many + 1):
                            tree = leaf_below(dyeing[:upto], (place, other), many)
                            wanted = plain_right_tree(sheet, width, many, tree, lambda dyed: True)
                            right += wanted
                            self.assertIs(shows_answer(sheet, width, many, saying, Sure(tree)), wanted)
        self.assertGreater(right, 100)

    def test_whether_there_is_a_mother_is_not_asked(self):
        tree = plain_tree(SHEET, 1, 2, [3, 1, 0, 2], no_end)
        for made in (Sure, Never):
            self.assertIs(shows_answer(SHEET, 1, 2, Same((0, 0), (1, 0)), made(tree)), True)
            self.assertIs(shows_answer(SHEET, 1, 3, Same((0, 0), (1, 0)), made(tree)), False)

    def test_beyond_eight_places(self):
        sheet = Sheet(["x", "y"], [["abcd", "abcd"], ["abcd", "abcd"], ["ijkl", "ijkl"]])
        saying, every = AlikeRows(0, 1), range(12)
        tree = plain_tree(sheet, 0, 8, every, aim(sheet, 8, saying, True))
        self.assertIs(shows_answer(sheet, 0, 8, saying, Sure(tree)), True)
        self.assertIs(shows_answer(sheet, 0, 8, saying, Never(tree)), False)
        one = (0, 1, 2, 3, 0, 1, 2, 3, 4, 5, 6, 7)
        self.assertIs(shows_answer(sheet, 0, 8, saying, Open(one, one)), False)
        self.assertIs(shows_at_once(sheet, 0, 8, [saying, Sizes(8)], AtOnce(one)), True)
        self.assertIs(shows_answer(NINE, 1, 8, Sizes(2), Open([0, 1] + [0] * 7, [0] * 9)), True)
        rows = Rows((0,), plain_tree(sheet.of_rows([0]), 0, 8, range(4), aim(sheet.of_rows([0]), 8, Sizes(4), True)), ())
        self.assertIs(shows_rows(sheet, 0, 8, Sizes(4), rows), True)

    def test_any_other_value(self):
        told = answer(SHEET, 1, 3, Same((0, 0), (1, 0)))
        never, either = answer(SHEET, 1, 3, Same((0, 1), (1, 1))), answer(SHEET, 1, 4, Same((0, 0), (1, 0)))
        for value in ODD + strangers(Sure, told.tree) + strangers(Never, told.tree) + [never, either]:
            self.assertIs(shows_answer(SHEET, 1, 3, Same((0, 0), (1, 0)), value), False)
        for value in ODD + strangers(Never, never.tree) + [told, either]:
            self.assertIs(shows_answer(SHEET, 1, 3, Same((0, 1), (1, 1)), value), False)
        for value in ODD + strangers(Open, *either.parts) + [told, never]:
            self.assertIs(shows_answer(SHEET, 1, 4, Same((0, 0), (1, 0)), value), False)

    def test_wrong(self):
        errors_of_saying(self, shows_answer, [(value, "saying") for value in ODD], 1)
        errors_of_saying(self, shows_rows, [(value, "saying") for value in ODD], 1)
        for call in (shows_answer, shows_rows):
            self.assertEqual(error_of(call, NINE, 1, 8, Same((0, 9), (1, 0)), None), ("NoPlace", ((0, 9),)))
            self.assertEqual(error_of(call, NINE, 1, 8, AlikeRows(1, 0), None), ("NoRow", (1,)))
            self.assertIs(call(NINE, 1, 8, Sizes(1), None), False)
        wrong = ODD + [[Sizes(1)] * 7, [Sizes(1), None], Sizes(1)]
        errors_of_saying(self, shows_at_once, [(value, "sayings") for value in wrong], 1)
        told = [Sizes(1), AlikeRows(0, 2), Same((0, 9), (1, 0))]
        self.assertEqual(error_of(shows_at_once, NINE, 1, 8, told, None), ("NoRow", (2,)))


class CheckAtOnce(unittest.TestCase):
    def test_any_dyeing(self):
        for chance in chances(2900, 25):
            sheet = some_whole_sheet(chance, 5)
            width, most = chance.randrange(2), chance.randrange(1, 6)
            sayings = [some_saying(chance, sheet, 1) for _ in range(chance.randrange(1, 4))]
            for dyeing in all_dyeings(len(sheet.places)):
                wanted = is_mother_told(sheet, width, most, dyeing)
                wanted = wanted and all(plain_holds(saying, sheet, dyeing) for saying in sayings)
                self.assertIs(shows_at_once(sheet, width, most, sayings, AtOnce(list(dyeing))), wanted)

    def test_bent_clashes(self):
        clashes = bent_ones = 0
        for chance in chances(2910, 150):
            sheet = some_whole_sheet(chance, 4)
            width, most = chance.randrange(2), chance.randrange(1, 5)
            sayings = [some_saying(chance, sheet, 1) for _ in range(chance.randrange(1, 4))]
            if plain_mothers(sheet, width, most):
                told = kept_at_once(sheet, width, most, sayings)
                self.assertIs(shows_at_once(sheet, width, most, sayings, told), True)
                if isinstance(told, Clash):
                    clashes += 1
                    self.assertIs(shows_at_once(sheet, width, most, sayings, Clash(*lists_for_tuples(told.parts))), True)
                    for bent in bent_parts(told.parts) if len(str(told.parts)) < 70 else []:
                        if len(bent) == 3:
                            bent_ones += 1
                            wanted = is_clash(sheet, width, most, sayings, *tuples(bent))
                            self.assertIs(shows_at_once(sheet, width, most, sayings, Clash(*bent)), wanted, bent)
        self.assertGreater(clashes, 30)
        self.assertGreater(bent_ones, 1000)

    def test_more_than_clash(self):
        alike, sayings = Same((0, 0), (1, 0)), [Sizes(2), Same((0, 0), (1, 0)), Sizes(4)]
        told = kept_at_once(SHEET, 1, 4, sayings)
        self.assertEqual(told.numbers, (1, 2))
        tree = plain_tree(SHEET, 1, 4, range(4), clash_ends(SHEET, 4, sayings))
        all_three = Clash((0, 1, 2), tree, [(0, 1, 0, 2), (0, 1, 2, 3), (0, 1, 0, 2)])
        self.assertIs(shows_at_once(SHEET, 1, 4, sayings, all_three), False)
        self.assertIs(shows_at_once(SHEET, 1, 4, [alike, Sizes(4)], Clash((0, 1), told.tree, told.others)), True)

    def test_any_other_value(self):
        sayings = [Same((0, 0), (1, 0)), Sizes(4)]
        told = kept_at_once(SHEET, 1, 4, sayings)
        for value in ODD + strangers(Clash, *told.parts) + [AtOnce((0, 1, 0, 2)), AtOnce((0, 1, 2, 3))]:
            self.assertIs(shows_at_once(SHEET, 1, 4, sayings, value), False)
        for value in ODD + strangers(AtOnce, (0, 1, 0, 2)) + [told]:
            self.assertIs(shows_at_once(SHEET, 1, 4, sayings[:1], value), False)


class CheckRows(unittest.TestCase):
    def test_any_right_rows(self):
        found = 0
        for chance in chances(3000, 100):
            sheet = some_whole_sheet(chance, 5)
            width, most, saying = chance.randrange(2), chance.randrange(1, 6), some_saying(chance, sheet, 1)
            sets = sets_asked(sheet, saying)
            for rows in sets:
                part = sheet.of_rows(rows)
                if not against(sheet, width, most, saying, rows):
                    ends = aim(part, most, told_on(saying, rows), True)
                    tree = plain_tree(part, width, most, orders_of_places(chance, part), ends)
                    others = [chance.choice(against(sheet, width, most, saying, ahead) or [()])
                              for ahead in sets[:sets.index(rows)]]
                    wanted = is_rows(sheet, width, most, saying, rows, tree, tuple(others))
                    found += wanted
                    self.assertIs(shows_rows(sheet, width, most, saying, Rows(list(rows), tree, others)), wanted)
        self.assertGreater(found, 30)

    def test_bent_rows(self):
        bent_ones = 0
        for chance in chances(3010, 80):
            sheet = some_whole_sheet(chance, 5)
            width, most, saying = chance.randrange(2), chance.randrange(1, 6), some_saying(chance, sheet, 1)
            if plain_mothers(sheet, width, most) and len(sheet.rows) < 6:
                told = fewest_rows(sheet, width, most, saying)
                self.assertIs(shows_rows(sheet, width, most, saying, told), isinstance(told, Rows))
                if isinstance(told, Rows) and len(str(told.parts)) < 100:
                    for bent in bent_parts(told.parts):
                        if len(bent) == 3:
                            bent_ones += 1
                            wanted = is_rows(sheet, width, most, saying, *tuples(bent))
                            self.assertIs(shows_rows(sheet, width, most, saying, Rows(*bent)), wanted, bent)
        self.assertGreater(bent_ones, 2000)

    def test_six_rows(self):
        six = Sheet(["x"], [["a"]] * 5 + [["b"]])
        part = six.of_rows([5])
        tree = plain_tree(part, 1, 2, [0], aim(part, 2, Sizes(1), True))
        others = [(0,)] * 5
        self.assertIs(shows_rows(six, 1, 2, Sizes(1), Rows((0,), tree, ())), True)
        self.assertIs(shows_rows(six, 1, 2, Sizes(1), Rows((5,), tree, others)), False)

    def test_any_other_value(self):
        sheet = Sheet(["one", "two"], [["sa", "sa"], ["si", "zi"], ["ta", "ta"]])
        told = fewest_rows(sheet, 1, 4, Same((0, 0), (1, 0)))
        self.assertIs(shows_rows(sheet, 1, 4, Same((0, 0), (1, 0)), told), True)
        for value in ODD + strangers(Rows, *told.parts) + [Sure(told.tree)]:
            self.assertIs(shows_rows(sheet, 1, 4, Same((0, 0), (1, 0)), value), False)


def leaf_below(sounds, leaf, most):
    """A tree that dyes some places like this, with the leaf below, and None on all other ways."""
    tree = leaf
    for place in range(len(sounds) - 1, -1, -1):
        stand = len(set(sounds[:place]))
        branches = [None] * (stand + (stand < most))
        branches[sounds[place]] = tree
        tree = (place, tuple(branches))
    return tree
