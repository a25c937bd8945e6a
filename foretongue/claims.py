"""Claims: sayings told of the numbers of a sheet's places, settled as soon as these are dyed.

A claim is a tuple that begins with the word of its saying. Cuts are pairs of a claim and a
truth: below them nothing is looked for, as one of the claims is settled so.
"""

SAME = "same"
ROWS = "rows"
SIZE = "size"
NOT = "not"
BOTH = "both"


def settled_same(claim, dyed):
    """Whether the two places are dyed alike, None if one is not dyed."""
    mine = dyed.sounds[claim[1]]
    its = dyed.sounds[claim[2]]
    if mine is None or its is None:
        return None
    return mine == its


def settled_rows(claim, dyed):
    """Whether all pairs of places that face one another are dyed alike; no pairs for unlike rows."""
    if claim[1] is None:
        return False
    is_open = False
    for mine, its in claim[1]:
        if dyed.sounds[mine] is None or dyed.sounds[its] is None:
            is_open = True
        elif dyed.sounds[mine] != dyed.sounds[its]:
            return False
    return None if is_open else True


def settled_size(claim, dyed):
    """Whether so many sounds stand; None if they do not, but still can come."""
    many = len(dyed.lots)
    if many >= claim[1]:
        return True
    if min(dyed.most, many + dyed.left) < claim[1]:
        return False
    return None


def settled_both(claim, dyed):
    """False as soon as one of the two claims is settled to False, True once both are to True."""
    one = settled(claim[1], dyed)
    if one is False:
        return False
    other = settled(claim[2], dyed)
    if other is False:
        return False
    return True if one and other else None


def settled(claim, dyed):
    """How what is dyed settles a claim: True, False, or None if it does not."""
    word = claim[0]
    if word == SAME:
        return settled_same(claim, dyed)
    if word == ROWS:
        return settled_rows(claim, dyed)
    if word == SIZE:
        return settled_size(claim, dyed)
    if word == BOTH:
        return settled_both(claim, dyed)
    inner = settled(claim[1], dyed)
    return None if inner is None else not inner


def is_cut(cuts, dyed):
    """Whether one of the claims is settled to its truth."""
    for claim, truth in cuts:
        if settled(claim, dyed) == truth:
            return True
    return False


def places_of_claim(claim):
    """The list of the places of a claim, as they stand in it."""
    word = claim[0]
    if word == SAME:
        return [claim[1], claim[2]]
    if word == ROWS:
        return [place for pair in claim[1] or () for place in pair]
    if word == NOT:
        return places_of_claim(claim[1])
    if word == BOTH:
        return places_of_claim(claim[1]) + places_of_claim(claim[2])
    return []
