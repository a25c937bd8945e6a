"""Which values are right papers of family trees."""

from foretongue.checks import is_integer, is_list
from foretongue.crossings import Best, Struck, many_comings, pairs_left, trees_by_comings
from foretongue.families import need_family
from foretongue.lots import is_lot
from foretongue.papers import is_called
from foretongue.trees import Crossing, Tree, crossing_pairs, is_tree_of


def are_crossing(pairs, one, other):
    """Whether two values are numbers, the lesser ahead, of sharings that cross."""
    return is_integer(one) and is_integer(other) and (one, other) in pairs


def shows_tree(family, value):
    """Whether a value is a Tree that the family has, or a right Crossing."""
    need_family(family, "family")
    if isinstance(value, Tree) and is_called(value, "Tree"):
        if not is_tree_of(family.languages, value.sets):
            return False
        return all([sharing in value.sets for sharing in family.sharings])
    if isinstance(value, Crossing) and is_called(value, "Crossing"):
        return are_crossing(crossing_pairs(family), value.one, value.other)
    return False


def is_striking_tree(pairs, most, tree):
    """Whether a value is a tree that refuses so many struck sharings, for pairs that none of them strikes."""
    if not is_list(tree) or len(tree) != (2 if most == 0 else 4):
        return False
    if not are_crossing(pairs, tree[0], tree[1]):
        return False
    if most == 0:
        return True
    if not is_striking_tree(pairs_left(pairs, [tree[0]]), most - 1, tree[2]):
        return False
    return is_striking_tree(pairs_left(pairs, [tree[1]]), most - 1, tree[3])


def shows_struck(family, value):
    """Whether a value is a Struck of numbers that do, with a right refusing tree for one fewer."""
    need_family(family, "family")
    if not isinstance(value, Struck) or not is_called(value, "Struck"):
        return False
    pairs = crossing_pairs(family)
    if not is_lot(value.numbers, len(family.sharings)) or len(pairs_left(pairs, value.numbers)) > 0:
        return False
    if len(value.numbers) == 0:
        return value.tree is None
    return is_striking_tree(pairs, len(value.numbers) - 1, value.tree)


def shows_best(family, value):
    """Whether a value is a Best of any tree with as many comings as it tells, and none with fewer."""
    need_family(family, "family")
    if not isinstance(value, Best) or not is_called(value, "Best"):
        return False
    if not is_tree_of(family.languages, value.sets) or not is_integer(value.many):
        return False
    fewest, _ = trees_by_comings(family)
    return value.many == fewest == many_comings(family, value.sets)
