"""Family trees: which ones a family has, or two sharings that cross."""

from foretongue.checks import is_list
from foretongue.columns import pairs_of_places
from foretongue.families import need_family, need_family_languages
from foretongue.lots import lots_below
from foretongue.needs import need_number
from foretongue.papers import Denial, Paper


class Tree(Paper):
    """A tree that the family has."""

    def __init__(self, sets):
        super().__init__("tree", sets)
        self.sets = self.parts[0]


class Crossing(Denial):
    """The numbers of two sharings that cross, the lesser ahead."""

    def __init__(self, one, other):
        super().__init__("crossing", one, other)
        self.one, self.other = self.parts


def has_all(one, other):
    """Whether a set of languages has all of another one."""
    return all([language in one for language in other])


def is_apart(one, other):
    """Whether no language is in both of two sets."""
    return not any([language in one for language in other])


def do_cross(one, other):
    """Whether two sets of languages are neither nested nor apart."""
    return not (has_all(one, other) or has_all(other, one) or is_apart(one, other))


def is_set_of(value, languages):
    """Whether a value is an ascending list of two or more of some languages."""
    if not is_list(value) or len(value) < 2:
        return False
    if not all([name in languages for name in value]):
        return False
    return all([one < other for one, other in zip(value, value[1:])])


def is_tree_of(languages, value):
    """Whether a value is a tree of some languages, told as an ascending list of ascending lists.

    Sets of two or more, nested or apart, all languages among them, are one fewer than there are
    languages exactly if each is made of just two: so the two need not be sought.
    """
    if not is_list(value) or len(value) != len(languages) - 1:
        return False
    if not all([is_set_of(one, languages) for one in value]):
        return False
    sets = [tuple(one) for one in value]
    if not all([one < other for one, other in zip(sets, sets[1:])]):
        return False
    if len(sets) > 0 and tuple(sorted(languages)) not in sets:
        return False
    return not any([do_cross(sets[at], sets[other]) for at, other in pairs_of_places(len(sets))])


def is_tree(languages, value):
    """Whether a value is a tree of these languages."""
    need_family_languages(languages)
    return is_tree_of(languages, value)


def parted_in_two(languages):
    """All ways to part some languages in two: the first part has the first language, neither is empty."""
    first, *others = languages
    parted = []
    for lot in lots_below(len(others))[:-1]:
        beside = [name for number, name in enumerate(others) if number in lot]
        left = [name for number, name in enumerate(others) if number not in lot]
        parted.append(((first, *beside), tuple(left)))
    return parted


def trees_over(languages):
    """The ascending list of all trees of some languages, an ascending tuple."""
    if len(languages) == 1:
        return [()]
    found = [
        tuple(sorted([languages, *one, *other]))
        for part, left in parted_in_two(languages)
        for one in trees_over(part)
        for other in trees_over(left)
    ]
    return sorted(found)


def all_trees(languages):
    """The ascending tuple of all trees of these languages."""
    need_family_languages(languages)
    return tuple(trees_over(tuple(sorted(languages))))


def crossing_pairs(family):
    """The ascending list of the pairs of numbers of sharings that cross, the lesser ahead."""
    sharings = family.sharings
    return [
        (one, other)
        for one, other in pairs_of_places(len(sharings))
        if do_cross(sharings[one], sharings[other])
    ]


def trees_with(family):
    """The ascending list of all trees that a family has."""
    trees = trees_over(family.languages)
    return [sets for sets in trees if all([sharing in sets for sharing in family.sharings])]


def tree_of(family):
    """The Tree of the first tree that a family has, or the Crossing of the first two sharings that cross."""
    need_family(family, "family")
    crossing = crossing_pairs(family)
    if len(crossing) > 0:
        return Crossing(crossing[0][0], crossing[0][1])
    return Tree(trees_with(family)[0])


def many_trees(family):
    """How many trees a family has."""
    need_family(family, "family")
    return len(trees_with(family))


def tree_at(family, number):
    """The tree that a family has with a number, ascending from 0."""
    need_family(family, "family")
    trees = trees_with(family)
    need_number(number, "number", 0, len(trees) - 1)
    return trees[number]
