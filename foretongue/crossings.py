"""Sharings that cross: which must be struck, and which trees come nearest."""

from foretongue.errors import BadFamily, Twice
from foretongue.families import need_family
from foretongue.lots import lots_below
from foretongue.needs import need_number
from foretongue.papers import Paper
from foretongue.trees import crossing_pairs, has_all, is_tree_of, trees_over


class Struck(Paper):
    """Numbers of fewest sharings without which no two cross, and a refusing tree for one fewer."""

    def __init__(self, numbers, tree):
        super().__init__("struck", numbers, tree)
        self.numbers, self.tree = self.parts


class Best(Paper):
    """A best tree, and how many comings it has."""

    def __init__(self, sets, many):
        super().__init__("best", sets, many)
        self.sets, self.many = self.parts


def crossings(family):
    """The ascending tuple of the pairs of numbers of sharings that cross."""
    need_family(family, "family")
    return tuple(crossing_pairs(family))


def pairs_left(pairs, numbers):
    """Those of some pairs of numbers that have none of the struck ones."""
    return [pair for pair in pairs if pair[0] not in numbers and pair[1] not in numbers]


def striking_tree(pairs, most):
    """A tree that refuses so many struck sharings, for pairs that are not all struck by so many."""
    one, other = pairs[0]
    if most == 0:
        return one, other
    first = striking_tree(pairs_left(pairs, [one]), most - 1)
    second = striking_tree(pairs_left(pairs, [other]), most - 1)
    return one, other, first, second


def fewest_struck(pairs, many):
    """The first of the fewest numbers, below many, that strike all of some pairs."""
    for numbers in lots_below(many):
        if len(pairs_left(pairs, numbers)) == 0:
            return numbers
    return None


def struck(family):
    """The Struck of the first of the fewest sharings without which no two cross."""
    need_family(family, "family")
    pairs = crossing_pairs(family)
    numbers = fewest_struck(pairs, len(family.sharings))
    return Struck(numbers, None if len(numbers) == 0 else striking_tree(pairs, len(numbers) - 1))


def lies_deeper(one, sets):
    """Whether a set lies within a greater one of some sets."""
    return any([len(other) > len(one) and has_all(other, one) for other in sets])


def comings_of(sharing, sets):
    """The ascending tuple of the comings of a sharing in a tree."""
    within = [one for one in sets if has_all(sharing, one)] + [(name,) for name in sharing]
    return tuple(sorted([one for one in within if not lies_deeper(one, within)]))


def many_within(family, one):
    """How many sharings of a family have all of a set."""
    return len([sharing for sharing in family.sharings if has_all(sharing, one)])


def many_alone(family):
    """How many comings all sharings have together if no set of the tree lies within one of them."""
    return sum([len(sharing) for sharing in family.sharings])


def many_comings(family, sets):
    """How many comings all sharings of a family have together in a tree.

    Each set that lies within a sharing makes one coming of two.
    """
    return many_alone(family) - sum([many_within(family, one) for one in sets])


def comings(family, tree):
    """For each sharing of a family the ascending tuple of its comings in a tree of its languages."""
    need_family(family, "family")
    if not is_tree_of(family.languages, tree):
        raise BadFamily("tree")
    sets = [tuple(one) for one in tree]
    return tuple([comings_of(sharing, sets) for sharing in family.sharings])


def sets_by_trees(trees):
    """For each set of some trees how many of them have it."""
    counts = {}
    for sets in trees:
        for one in sets:
            counts[one] = counts.get(one, 0) + 1
    return counts


def trees_by_comings(family):
    """The pair of the fewest comings that a tree has, and the ascending list of the best trees."""
    trees = trees_over(family.languages)
    # Many trees have the same sets: each is asked for once.
    within = {one: many_within(family, one) for one in sets_by_trees(trees)}
    counts = [sum([within[one] for one in sets]) for sets in trees]
    most = max(counts)
    return many_alone(family) - most, [sets for sets, many in zip(trees, counts) if many == most]


def best(family):
    """The Best of the first best tree of a family."""
    need_family(family, "family")
    many, trees = trees_by_comings(family)
    return Best(trees[0], many)


def best_trees(family):
    """The ascending tuple of all best trees of a family."""
    need_family(family, "family")
    _, trees = trees_by_comings(family)
    return tuple(trees)


def sure_sets(family):
    """The ascending tuple of the sets that all best trees have."""
    need_family(family, "family")
    _, trees = trees_by_comings(family)
    return tuple(sorted([one for one, many in sets_by_trees(trees).items() if many == len(trees)]))


def open_sets(family):
    """The ascending tuple of the sets that some best trees have, and some have not."""
    need_family(family, "family")
    _, trees = trees_by_comings(family)
    return tuple(sorted([one for one, many in sets_by_trees(trees).items() if many < len(trees)]))


def is_elder(family, sets, one, other):
    """Whether in a tree each coming of the other sharing lies within a greater one of the one."""
    mine = comings_of(family.sharings[one], sets)
    return all([lies_deeper(coming, mine) for coming in comings_of(family.sharings[other], sets)])


def elder(family, one, other):
    """Whether one sharing is elder than another one in all best trees, in none, or in some alone."""
    need_family(family, "family")
    need_number(one, "one", 0, len(family.sharings) - 1)
    need_number(other, "other", 0, len(family.sharings) - 1)
    if one == other:
        raise Twice(other)
    _, trees = trees_by_comings(family)
    told = [is_elder(family, sets, one, other) for sets in trees]
    if all(told):
        return "sure"
    return "open" if any(told) else "never"
