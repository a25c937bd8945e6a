"""Plain readings of what the document says of family trees, by a listing of all sets and all trees."""

from itertools import combinations

from foretongue.families import Family

FIVE = list("abcde")
SETS = [lot for many in range(2, 6) for lot in combinations(FIVE, many)]


def some_family(chance, most=8):
    """A family of at most so many sharings, its languages and sharings in any order."""
    languages = chance.sample(FIVE, chance.randrange(1, 6))
    sets = [lot for lot in SETS if set(lot) <= set(languages)]
    sharings = chance.sample(sets, min(len(sets), chance.randrange(most + 1)))
    return Family(languages, [chance.sample(lot, len(lot)) for lot in sharings])


def cross(one, other):
    one, other = set(one), set(other)
    return bool(one & other) and not one <= other and not other <= one


def put_in(tree, place, language):
    """The tree with one language more, beside a set of it or beside a language."""
    grown = [one | {language} if one > place else one for one in tree]
    return set(grown) | {place | {language}} | ({place} if len(place) > 1 else set())


def grown_trees(languages):
    """All trees of some languages, language after language put in beside each set and each language."""
    trees = [set()]
    for at in range(1, len(languages)):
        alone = [frozenset([name]) for name in languages[:at]]
        trees = [put_in(tree, place, languages[at]) for tree in trees for place in [*tree, *alone]]
    return sorted(tuple(sorted(tuple(sorted(one)) for one in tree)) for tree in trees)


def trees_of(family):
    return [tree for tree in grown_trees(family.languages) if set(family.sharings) <= set(tree)]


def plain_comings(sharing, tree):
    """The greatest sets of a tree, and languages alone, within a sharing."""
    within = [set(one) for one in tree if set(one) <= set(sharing)] + [{name} for name in sharing]
    return tuple(sorted(tuple(sorted(one)) for one in within if not any(one < other for other in within)))


def count_comings(family, tree):
    return sum(len(plain_comings(sharing, tree)) for sharing in family.sharings)


def plain_best(family):
    trees = grown_trees(family.languages)
    fewest = min(count_comings(family, tree) for tree in trees)
    return fewest, [tree for tree in trees if count_comings(family, tree) == fewest]


def plain_crossings(family):
    return [pair for pair in combinations(range(len(family)), 2) if cross(*(family.sharings[at] for at in pair))]


def strikes(family, numbers):
    return all(set(pair) & set(numbers) for pair in plain_crossings(family))


def fewest_to_strike(family):
    every = range(len(family) + 1)
    return min(many for many in every if any(strikes(family, lot) for lot in combinations(range(len(family)), many)))


def is_refusing(family, most, tree, struck=()):
    """Whether a value, lists as tuples, is a tree that refuses so many struck sharings, branch by branch."""
    if type(tree) is not tuple or len(tree) != (2 if len(struck) == most else 4):
        return False
    if any(type(number) is not int for number in tree[:2]) or tree[:2] not in plain_crossings(family):
        return False
    if set(tree[:2]) & set(struck):
        return False
    return all(is_refusing(family, most, branch, (*struck, number)) for number, branch in zip(tree, tree[2:]))


def plain_elder(family, tree, one, other):
    mine = plain_comings(family.sharings[one], tree)
    return all(any(set(its) < set(coming) for coming in mine) for its in plain_comings(family.sharings[other], tree))
