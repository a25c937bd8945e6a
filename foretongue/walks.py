"""Walks through the dyeings of a sheet that nothing bars, and the trees that refuse them.

A tree is a leaf, a pair of places, the lesser ahead, that bar what is dyed on the way to it;
or None, where a claim is settled that is not looked for; or (place, branches), one for each
sound that the place can have.
"""

from foretongue.claims import is_cut, places_of_claim
from foretongue.dyed_places import DyedPlaces
from foretongue.grounds import are_all_alike


def late_by_step(grounds, order):
    """For each step the pairs of places that may bar as soon as the place of this step is dyed.

    Each stands with the pairs that must be alike for it; those that need no others are left out.
    """
    steps = {place: step for step, place in enumerate(order)}
    late = [[] for _ in order]
    for pair, pairs in grounds.needs.items():
        if len(pairs) > 1:
            last = max([max(steps[place], steps[other]) for place, other in pairs])
            late[last].append((pair, pairs))
    return late


def lowest_place(mask):
    """The least place in a mask."""
    return (mask & -mask).bit_length() - 1


class Walk:
    """Dyes the places in a told order, with at most so many sounds, as far as nothing bars or cuts."""

    def __init__(self, grounds, most, cuts, order):
        self.never = grounds.never
        self.cuts = cuts
        self.order = order
        self.late = late_by_step(grounds, order)
        self.dyed = DyedPlaces(grounds.many, most)

    def barring_pair(self, step):
        """A pair of places that bars what is dyed up to a step, None if there is none."""
        place = self.order[step]
        dyed = self.dyed
        barred = dyed.lots[dyed.sounds[place]] & self.never[place]
        if barred > 0:
            other = lowest_place(barred)
            return min(place, other), max(place, other)
        for pair, pairs in self.late[step]:
            if are_all_alike(dyed.sounds, pairs):
                return pair
        return None

    def collect(self, step, found, limit):
        """Puts into found what is dyed at each end of the walk, up to so many."""
        dyed = self.dyed
        if is_cut(self.cuts, dyed):
            return
        if step == len(self.order):
            found.append(tuple(dyed.sounds))
            return
        place = self.order[step]
        for sound in range(dyed.choices()):
            dyed.dye(place, sound)
            if self.barring_pair(step) is None:
                self.collect(step + 1, found, limit)
            dyed.wash(place)
            if len(found) >= limit:
                return

    def tree_below(self, step):
        """The tree below what is dyed up to a step, for a walk that comes to no end."""
        dyed = self.dyed
        if is_cut(self.cuts, dyed):
            return None
        place = self.order[step]
        branches = []
        for sound in range(dyed.choices()):
            dyed.dye(place, sound)
            pair = self.barring_pair(step)
            branches.append(self.tree_below(step + 1) if pair is None else pair)
            dyed.wash(place)
        return place, tuple(branches)


def order_for(grounds, cuts):
    """All places, those of the claims and their neighbours ahead: so claims are settled soon."""
    told = [place for claim, _ in cuts for place in places_of_claim(claim)]
    beside = [place for number in told for place in grounds.neighbours[number] if place is not None]
    return list({place: True for place in told + beside + list(range(grounds.many))})


def numbered(sounds):
    """The dyeing in which two places are alike where some values are equal."""
    numbers = {}
    for sound in sounds:
        numbers.setdefault(sound, len(numbers))
    return tuple([numbers[sound] for sound in sounds])


def first_mothers(grounds, most, limit):
    """The list of the first mothers of at most so many sounds, ascending, up to so many."""
    found = []
    Walk(grounds, most, [], list(range(grounds.many))).collect(0, found, limit)
    return found


def least_mother(grounds, most):
    """The least mother of at most so many sounds, None if there is none."""
    found = first_mothers(grounds, most, 1)
    return found[0] if len(found) > 0 else None


def mother_beside(grounds, most, cuts):
    """Any mother of at most so many sounds for which no claim is as the cuts tell, None without any."""
    found = []
    Walk(grounds, most, cuts, order_for(grounds, cuts)).collect(0, found, 1)
    return numbered(found[0]) if len(found) > 0 else None


def refusing_tree(grounds, most, cuts):
    """A tree that refuses all that the cuts leave, if no such mother is there."""
    return Walk(grounds, most, cuts, order_for(grounds, cuts)).tree_below(0)
