import unittest

from foretongue.searches import least_couples

# For each node the sounds of both words, and the node behind.
STEPS = {
    "start": [("b", "a", "left"), ("a", "b", "right"), ("c", "c", "start")],
    "left": [("a", "a", "meet"), ("c", "a", "end")],
    "right": [("a", "a", "meet"), ("c", "c", "last"), ("b", "b", "end")],
    "meet": [("a", "a", "far")],
    "end": [],
    "last": [("a", "a", "start")],
    "far": [],
}
SORTS = {"end": "end", "last": "end", "far": "far"}


class Searches(unittest.TestCase):
    def search(self, start, many):
        return least_couples(start, lambda node: STEPS[node], lambda node: SORTS.get(node), many)

    def test_the_least_of_equally_long_words(self):
        self.assertEqual(self.search("start", 2), {"end": ("ab", "bb"), "far": ("aaa", "baa")})

    def test_it_ends_when_so_many_sorts_are_met(self):
        self.assertEqual(self.search("start", 1), {"end": ("ab", "bb")})
        self.assertEqual(self.search("start", 3), self.search("start", 2))

    def test_nothing_is_met(self):
        self.assertEqual(self.search("end", 1), {"end": ("", "")})
        self.assertEqual(self.search("meet", 2), {"far": ("a", "a")})
        self.assertEqual(least_couples("start", lambda node: STEPS[node], lambda node: None, 1), {})
