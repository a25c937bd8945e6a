import unittest

from foretongue.befores import Ahead, AllKept, Behind, Either, Loose, before, firm
from foretongue.courses import Course
from foretongue.errors import Impossible
from foretongue.orders import Fits, NoOrder, order_of, outcomes_of, possible_orders
from foretongue.pairs import Pairs
from foretongue.shifts import Shift
from tests.helper import ODD, chances, error_of
from tests.plain_orders import (bars, fewest, fitting, forces, kept_by, plain_firm, plain_made, plain_orders, plain_possible,
                                some_told)

SOFT, HIGH = Shift("k", "c", None, "i"), Shift("u", "i")
TOLD = Pairs([SOFT, HIGH], [("ku", "ki"), ("", ""), ("si", "si")])
THREE = Pairs([SOFT, HIGH, Shift("u", "i", "k")], [("ku", "ci")])
NO_ORDER = TOLD.with_pair("ku", "ci")
FORMS = [("ka", "ka"), ("ki", "ci"), ("ku", "ci"), ("kuu", "cii"), ("uku", "ici")]


def told_ones(seed, times):
    """Told pairs of one to four shifts, some with falls, and some in which one shift takes up another's sound."""
    for number, chance in enumerate(chances(seed, times)):
        yield chance, some_told(chance, 1 + number % 4, "abc", falls=number % 3 == 0, honest=0.6)
    needs = [Shift("k", "c", None, "i"), Shift("u", "i"), Shift("u", "i", "k"), Shift("c", "s", "#")]
    for number, chance in enumerate(chances(seed + 1, 30)):
        shifts = chance.sample(needs, 1 + number % 4)
        order = chance.sample(range(len(shifts)), len(shifts))
        words = chance.sample(["ku", "ki", "uku", "kuki", "cu"], chance.randrange(4))
        yield chance, Pairs(shifts, [(word, plain_made(shifts, order, word)) for word in words])


class Orders(unittest.TestCase):
    def test_possible_orders(self):
        none = 0
        for _, told in told_ones(3300, 120):
            wanted = plain_possible(told)
            none += not wanted
            self.assertEqual(possible_orders(told), tuple(wanted))
            if wanted:
                self.assertEqual(order_of(told), Fits(wanted[0]))
                self.assertIs(bool(order_of(told)), True)
            else:
                self.assertEqual(order_of(told), NoOrder(fewest(told, lambda numbers: bars(told, numbers))[0]))
                self.assertIs(bool(order_of(told)), False)
        self.assertGreater(none, 10)

    def test_more_and_fewer_pairs(self):
        for chance, told in told_ones(3310, 60):
            for number in range(len(told)):
                self.assertLessEqual(set(possible_orders(told)), set(possible_orders(told.without([number]))))
            turned = Pairs(told.shifts, chance.sample(told.pairs, len(told)))
            self.assertEqual(possible_orders(turned), possible_orders(told))

    def test_outcomes_in_groups(self):
        groups = 0
        for chance, told in told_ones(3320, 160):
            words = ["".join(chance.choices("abcku", k=chance.randrange(5))) for _ in range(chance.randrange(4))]
            wanted = {}
            for order in plain_possible(told):
                made = tuple(plain_made(told.shifts, order, word) for word in words)
                wanted.setdefault(made, []).append(order)
            groups += len(wanted) > 1
            self.assertEqual(outcomes_of(told, words), tuple((made, tuple(orders)) for made, orders in wanted.items()))
        self.assertGreater(groups, 10)
        self.assertEqual(outcomes_of(NO_ORDER, ["a"]), ())
        self.assertEqual(outcomes_of(THREE, ()), (((), possible_orders(THREE)),))

    def test_wrong(self):
        for call in (possible_orders, order_of, firm):
            for value in ODD + [str(TOLD), Course([SOFT])]:
                self.assertEqual(error_of(call, value), ("BadPairs", ("told",)))
        for value in ODD + [str(TOLD)]:
            self.assertEqual(error_of(outcomes_of, value, value), ("BadPairs", ("told",)))
            if value not in ([], (), ["a"], ("a", "b")):
                self.assertEqual(error_of(outcomes_of, TOLD, value), ("BadWord", ("words",)))
        for value in (["a", "A"], "a", ["a" * 13], [("a",)], {"a": 1}):
            self.assertEqual(error_of(outcomes_of, NO_ORDER, value), ("BadWord", ("words",)))


class Befores(unittest.TestCase):
    def test_before(self):
        kinds = []
        for _, told in told_ones(3400, 120):
            possible = plain_possible(told)
            for one in range(len(told.shifts)):
                for other in range(len(told.shifts)):
                    if one == other:
                        self.assertEqual(error_of(before, told, one, other), ("Twice", (other,)))
                    elif not possible:
                        self.assertEqual(error_of(before, told, one, other), ("Impossible", (order_of(told),)))
                    else:
                        self.check(told, possible, one, other, before(told, one, other))
                        kinds.append(before(told, one, other).kind)
        for kind in ("ahead", "behind", "either"):
            self.assertGreater(kinds.count(kind), 20)

    def check(self, told, possible, one, other, found):
        first = [order for order in possible if order.index(one) < order.index(other)]
        second = [order for order in possible if order.index(other) < order.index(one)]
        if first and second:
            self.assertEqual(found, Either(first[0], second[0]))
        elif first:
            self.assertEqual(found, Ahead(fewest(told, lambda numbers: forces(told, one, other, numbers))[0]))
        else:
            self.assertEqual(found, Behind(fewest(told, lambda numbers: forces(told, other, one, numbers))[0]))
        self.assertIs(bool(found), bool(first))

    def test_sets_of_several_pairs(self):
        """Two of three pairs are wanted to force: each alone leaves an order with the other one ahead."""
        found = set()
        shifts = [Shift("k", "c", None, "i"), Shift("u", "i"), Shift("u", "i", "k"), Shift("a", "u")]
        for number in range(200):
            for chance in chances(3410 + number, 1):
                order = chance.sample(range(4), 4)
                words = chance.sample(["ku", "ka", "u", "aku", "kuka", "uka", "kaku"], 3)
                told = Pairs(shifts, [(word, plain_made(shifts, order, word)) for word in words])
                for one, other in plain_firm(told):
                    found.add(len(before(told, one, other).numbers))
                    wanted = fewest(told, lambda numbers: forces(told, one, other, numbers))[0]
                    self.assertEqual(before(told, one, other), Ahead(wanted))
                    self.assertEqual(before(told, other, one), Behind(wanted))
        self.assertLessEqual({1, 2}, found)

    def test_firm(self):
        kinds = set()
        for _, told in told_ones(3420, 120):
            possible, pairs = plain_possible(told), plain_firm(told)
            if not possible:
                with self.assertRaises(Impossible) as caught:
                    firm(told)
                self.assertEqual(caught.exception.paper, order_of(told))
                continue
            loose = [order for order in plain_orders(told) if kept_by(order, pairs) and order not in possible]
            found = firm(told)
            kinds.add(found.kind)
            self.assertEqual(found, Loose(pairs, loose[0]) if loose else AllKept(pairs))
            self.assertIs(bool(found), not loose)
        self.assertEqual(kinds, {"allkept", "loose"})

    def test_one_of_two_ahead(self):
        """The fact of [12]: nothing is firm, and two of six orders are not possible."""
        self.assertEqual(firm(THREE), Loose((), (0, 1, 2)))
        self.assertEqual(len(fitting(THREE, [0])), 4)

    def test_own_words_leave_its_own_order(self):
        for chance in chances(3430, 30):
            told = some_told(chance, 1 + chance.randrange(4), honest=1)
            course = told.course_by(told.orders[-1])
            of_course = Pairs.of(course, ["abc", "cab", "bb"])
            self.assertIn(tuple(range(len(course))), possible_orders(of_course))

    def test_wrong(self):
        for value in ODD:
            self.assertEqual(error_of(before, value, value, value), ("BadPairs", ("told",)))
        for value in [2, -1, True, False, None, 1.0, "1", [1], 10 ** 70]:
            self.assertEqual(error_of(before, NO_ORDER, value, value), ("NoShift", (value,)))
            self.assertEqual(error_of(before, NO_ORDER, 1, value), ("NoShift", (value,)))
        self.assertEqual(error_of(before, NO_ORDER, 1, 1), ("Twice", (1,)))
        self.assertEqual(error_of(before, NO_ORDER, 0, 1), ("Impossible", (NoOrder((0, 3)),)))
        self.assertEqual(error_of(firm, NO_ORDER), ("Impossible", (NoOrder((0, 3)),)))
        self.assertEqual(error_of(before, Pairs([SOFT], []), 0, 1), ("NoShift", (1,)))
        self.assertEqual(firm(Pairs([SOFT], [])), AllKept(()))
