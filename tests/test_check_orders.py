import unittest
from itertools import combinations, permutations

from foretongue.befores import Ahead, AllKept, Behind, Either, Loose, before, firm
from foretongue.check_orders import shows_before, shows_firm, shows_one_way, shows_order
from foretongue.orders import Fits, NoOrder, order_of
from foretongue.pairs import Pairs
from foretongue.shifts import Shift
from foretongue.ways import OneWay, TwoWays, one_way
from tests.helper import ODD, bent_parts, error_of, lists_for_tuples, plain_words, strangers
from tests.plain_mothers import tuples
from tests.plain_orders import bars, fewest, forces, kept_by, parting_word, plain_firm, plain_made, plain_orders, plain_possible
from tests.test_orders import HIGH, NO_ORDER, SOFT, THREE, TOLD, told_ones
from tests.test_ways import DROP, FOUR, FREE


def are_numbers(value):
    return type(value) is tuple and all(type(number) is int for number in value)


def is_possible(told, value):
    return are_numbers(value) and value in plain_possible(told)


def is_before(told, one, other, kind, parts):
    if not plain_possible(told):
        return False
    if kind == "either":
        first, second = parts
        if not is_possible(told, first) or not is_possible(told, second):
            return False
        return first.index(one) < first.index(other) and second.index(other) < second.index(one)
    ways = (one, other) if kind == "ahead" else (other, one)
    return are_numbers(parts[0]) and parts[0] in fewest(told, lambda numbers: forces(told, *ways, numbers))


def is_firm(told, kind, parts):
    if not plain_possible(told) or type(parts[0]) is not tuple or not all(are_numbers(pair) for pair in parts[0]):
        return False
    if parts[0] != plain_firm(told):
        return False
    loose = [order for order in plain_orders(told) if kept_by(order, parts[0]) and order not in plain_possible(told)]
    return not loose if kind == "allkept" else are_numbers(parts[1]) and parts[1] in loose


def is_one_way(told, stock, kind, parts):
    possible = plain_possible(told)
    if kind == "oneway":
        if type(parts[0]) is not tuple or not all(are_numbers(order) for order in parts[0]) or not possible:
            return False
        return list(parts[0]) == possible and parting_word(told, possible, stock) is None
    first, second, word = parts
    if not is_possible(told, first) or not is_possible(told, second):
        return False
    if type(word) is not str or len(word) > 12 or not set(word) <= set(stock):
        return False
    return plain_made(told.shifts, first, word) != plain_made(told.shifts, second, word)


class CheckOrder(unittest.TestCase):
    def test_any_order_and_any_set(self):
        found = 0
        for _, told in told_ones(3600, 60):
            for order in plain_orders(told):
                self.assertIs(shows_order(told, Fits(list(order))), order in plain_possible(told))
            wanted = fewest(told, lambda numbers: bars(told, numbers)) if not plain_possible(told) else []
            found += len(wanted) > 1
            for size in range(len(told) + 1):
                for numbers in combinations(range(len(told)), size):
                    self.assertIs(shows_order(told, NoOrder(list(numbers))), numbers in wanted)
                    self.assertIs(shows_order(told, NoOrder(numbers[::-1])), size < 2 and numbers in wanted)
        self.assertGreater(found, 0)

    def test_bent(self):
        for told in (TOLD, THREE, NO_ORDER):
            right = order_of(told)
            for bent in bent_parts(right.parts):
                if len(bent) == 1:
                    parts = tuples(bent)
                    is_fit = right.kind == "fits"
                    wanted = is_possible(told, parts[0]) if is_fit else repr(parts) == "((0, 3),)"
                    self.assertIs(shows_order(told, type(right)(*bent)), wanted, bent)

    def test_any_other_value(self):
        for value in ODD + strangers(Fits, (0, 1)) + [NoOrder(()), NoOrder((0,))]:
            self.assertIs(shows_order(TOLD, value), False)
        for value in ODD + strangers(NoOrder, (0, 3)) + [Fits((0, 1))]:
            self.assertIs(shows_order(NO_ORDER, value), False)
        for value in ODD:
            self.assertEqual(error_of(shows_order, value, value), ("BadPairs", ("told",)))
            self.assertIs(shows_order(TOLD, Fits(value)), False)
            self.assertIs(shows_order(NO_ORDER, NoOrder(value)), False)


class CheckBefore(unittest.TestCase):
    def test_any_set_and_any_orders(self):
        several = 0
        for _, told in told_ones(3700, 50):
            for one, other in permutations(range(len(told.shifts)), 2):
                wanted = fewest(told, lambda numbers: forces(told, one, other, numbers)) if plain_possible(told) else []
                several += len(wanted) > 1
                for size in range(len(told) + 1):
                    for numbers in combinations(range(len(told)), size):
                        self.assertIs(shows_before(told, one, other, Ahead(list(numbers))), numbers in wanted)
                        self.assertIs(shows_before(told, other, one, Behind(numbers)), numbers in wanted)
                if len(told.shifts) < 4:
                    for first in plain_orders(told):
                        for second in plain_orders(told):
                            wanted = is_before(told, one, other, "either", (first, second))
                            self.assertIs(shows_before(told, one, other, Either(first, list(second))), wanted)
        self.assertGreater(several, 0)

    def test_bent(self):
        bent_ones = 0
        for told in (TOLD, THREE, TOLD.with_pair("kuku", "kiki")):
            for one, other in permutations(range(len(told.shifts)), 2):
                right = before(told, one, other)
                self.assertIs(shows_before(told, one, other, type(right)(*lists_for_tuples(right.parts))), True)
                for bent in bent_parts(right.parts):
                    if len(bent) == len(right.parts):
                        bent_ones += 1
                        wanted = is_before(told, one, other, right.kind, tuples(bent))
                        self.assertIs(shows_before(told, one, other, type(right)(*bent)), wanted, bent)
        self.assertGreater(bent_ones, 500)

    def test_any_other_value(self):
        ahead, behind, either = before(TOLD, 0, 1), before(TOLD, 1, 0), before(THREE, 1, 2)
        for value in ODD + strangers(Ahead, *ahead.parts) + [behind, either, firm(TOLD)]:
            self.assertIs(shows_before(TOLD, 0, 1, value), False)
        for value in ODD + strangers(Behind, *behind.parts) + [ahead, either]:
            self.assertIs(shows_before(TOLD, 1, 0, value), False)
        for value in ODD + strangers(Either, *either.parts) + [ahead, behind]:
            self.assertIs(shows_before(THREE, 1, 2, value), False)

    def test_without_a_possible_order(self):
        for numbers in [(), (0,), (3,), (0, 3)]:
            for made in (Ahead, Behind):
                self.assertIs(shows_before(NO_ORDER, 0, 1, made(numbers)), False)
        self.assertIs(shows_before(NO_ORDER, 0, 1, Either((0, 1), (1, 0))), False)

    def test_wrong(self):
        for value in ODD:
            self.assertEqual(error_of(shows_before, value, value, value, value), ("BadPairs", ("told",)))
        for value in [2, -1, True, False, None, 1.0, "1", [1]]:
            self.assertEqual(error_of(shows_before, NO_ORDER, value, value, value), ("NoShift", (value,)))
            self.assertEqual(error_of(shows_before, NO_ORDER, 1, value, value), ("NoShift", (value,)))
        self.assertEqual(error_of(shows_before, NO_ORDER, 1, 1, None), ("Twice", (1,)))


class CheckFirm(unittest.TestCase):
    def test_any_order(self):
        kinds = set()
        for _, told in told_ones(3800, 60):
            pairs = plain_firm(told) if plain_possible(told) else ()
            for order in plain_orders(told):
                wanted = is_firm(told, "loose", (pairs, order))
                kinds.add(("loose", wanted))
                self.assertIs(shows_firm(told, Loose(lists_for_tuples(pairs), list(order))), wanted)
            wanted = is_firm(told, "allkept", (pairs,))
            kinds.add(("allkept", wanted))
            self.assertIs(shows_firm(told, AllKept(pairs)), wanted)
            if len(pairs) > 1:
                self.assertIs(shows_firm(told, AllKept(pairs[::-1])), False)
        self.assertEqual(len(kinds), 4)

    def test_bent(self):
        four = Pairs([SOFT, HIGH, Shift("u", "i", "k"), Shift("c", "s")], [("ku", "si"), ("ki", "si")])
        for told in (TOLD, THREE, four, Pairs([SOFT], [])):
            right = firm(told)
            self.assertIs(shows_firm(told, right), True)
            for bent in bent_parts(right.parts):
                if len(bent) == len(right.parts):
                    wanted = is_firm(told, right.kind, tuples(bent))
                    self.assertIs(shows_firm(told, type(right)(*bent)), wanted, bent)

    def test_any_other_value(self):
        kept, loose = firm(TOLD), firm(THREE)
        for value in ODD + strangers(AllKept, *kept.parts) + [loose, Fits((0, 1))]:
            self.assertIs(shows_firm(TOLD, value), False)
        for value in ODD + strangers(Loose, *loose.parts) + [kept]:
            self.assertIs(shows_firm(THREE, value), False)
        for pairs in [(), ((0, 1),), ((0, 1), (1, 0))]:
            self.assertIs(shows_firm(NO_ORDER, AllKept(pairs)), False)
            self.assertIs(shows_firm(NO_ORDER, Loose(pairs, (0, 1))), False)
        for value in ODD:
            self.assertEqual(error_of(shows_firm, value, value), ("BadPairs", ("told",)))


class CheckWays(unittest.TestCase):
    def test_any_word(self):
        both = Pairs([SOFT, HIGH], [])
        for told in (both, THREE, FREE.without([])):
            for first in plain_orders(told):
                for second in plain_orders(told):
                    for word in plain_words("ku", 3) + ["kukukukukuku", "kukukukukukuk", "ka", "kU", ""]:
                        wanted = is_one_way(told, "iku", "twoways", (first, second, word))
                        self.assertIs(shows_one_way(told, "iku", TwoWays(list(first), second, word)), wanted)

    def test_all_orders(self):
        for _, told in told_ones(3900, 60):
            if len(told.shifts) < 4 and not any(shift.falls for shift in told.shifts):
                for orders in (plain_possible(told), plain_possible(told)[::-1], plain_orders(told), []):
                    wanted = is_one_way(told, "abk", "oneway", (tuple(orders),))
                    self.assertIs(shows_one_way(told, "abk", OneWay(orders)), wanted)

    def test_bent(self):
        kinds = set()
        for told, stock in ((THREE, "iku"), (TOLD, "iku"), (Pairs([SOFT, HIGH], []), "iku"), (Pairs([SOFT, HIGH], []), "ik")):
            right = one_way(told, stock)
            kinds.add(right.kind)
            for bent in bent_parts(right.parts):
                if len(bent) == len(right.parts):
                    wanted = is_one_way(told, stock, right.kind, tuples(bent))
                    self.assertIs(shows_one_way(told, stock, type(right)(*bent)), wanted, bent)
        self.assertEqual(kinds, {"oneway", "twoways"})

    def test_any_other_value(self):
        both = Pairs([SOFT, HIGH], [])
        one, two = one_way(both, "ik"), one_way(both, "iku")
        for value in ODD + strangers(OneWay, *one.parts) + [two, Fits((0, 1))]:
            self.assertIs(shows_one_way(both, "ik", value), False)
        for value in ODD + strangers(TwoWays, *two.parts) + [one]:
            self.assertIs(shows_one_way(both, "iku", value), False)
        for orders in [(), ((0, 1),), ((0, 1), (1, 0))]:
            self.assertIs(shows_one_way(NO_ORDER, "iku", OneWay(orders)), False)
        self.assertIs(shows_one_way(NO_ORDER, "iku", TwoWays((0, 1), (1, 0), "ku")), False)

    def test_wrong(self):
        for value in ODD:
            self.assertEqual(error_of(shows_one_way, value, value, value), ("BadPairs", ("told",)))
            self.assertEqual(error_of(shows_one_way, DROP, value, value), ("BadStock", ("stock",)))
            self.assertEqual(error_of(shows_one_way, DROP, "abcde", value), ("BadCourse", ("falls",)))
            self.assertEqual(error_of(shows_one_way, FOUR, "abcde", value), ("TooMany", ("shifts", 3)))
            self.assertEqual(error_of(shows_one_way, FREE, "abcd", value), ("TooMany", ("words", 4000)))
