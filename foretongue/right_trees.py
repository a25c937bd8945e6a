"""Which values are right trees: each leaf bars what is dyed on the way, or a claim is settled there."""

from foretongue.checks import is_integer, is_list, is_within
from foretongue.claims import is_cut
from foretongue.dyed_places import DyedPlaces
from foretongue.grounds import is_barred_by


def is_right_leaf(grounds, dyed, leaf):
    """Whether a pair of places, the lesser ahead, bars what is dyed."""
    place, other = leaf
    return is_integer(place) and is_barred_by(grounds, dyed.sounds, (place, other))


def is_right_branch(grounds, dyed, cuts, tree):
    """Whether a value is a right tree below what is dyed."""
    if tree is None:
        return is_cut(cuts, dyed)
    if not is_list(tree) or len(tree) != 2:
        return False
    place, branches = tree
    if is_integer(branches):
        return is_right_leaf(grounds, dyed, tree)
    if not is_within(place, 0, grounds.many - 1) or dyed.sounds[place] is not None:
        return False
    if not is_list(branches) or len(branches) != dyed.choices():
        return False
    for sound, branch in enumerate(branches):
        dyed.dye(place, sound)
        is_right = is_right_branch(grounds, dyed, cuts, branch)
        dyed.wash(place)
        if not is_right:
            return False
    return True


def is_right_tree(grounds, most, cuts, tree):
    """Whether a value is a right tree of a sheet for so many sounds, with None where the cuts tell."""
    return is_right_branch(grounds, DyedPlaces(grounds.many, most), cuts, tree)
