"""What bars that places of a whole sheet are of one sound."""

from foretongue.columns import are_akin_columns, columns_of, pairs_of_places


class Grounds:
    """For each two places that can bar a dyeing, the lesser ahead, the pairs that must be alike for it.

    The two places themselves are the first of these pairs; of width 1 the neighbours follow.
    `never` has for each place the mask of those that bar with it as soon as they are alike.
    """

    def __init__(self, sheet, width):
        self.many = len(sheet.places)
        self.never = [0] * self.many
        self.needs = {}
        self.neighbours = neighbours_of(sheet)
        columns = columns_of(sheet)
        for place, other in pairs_of_places(self.many):
            if columns[place] != columns[other]:
                if width == 0 or not are_akin_columns(columns[place], columns[other]):
                    self.needs[(place, other)] = [(place, other)]
                else:
                    self.add_surroundings(place, other)
        for (place, other), pairs in self.needs.items():
            if len(pairs) == 1:
                self.never[place] |= 1 << other
                self.never[other] |= 1 << place

    def add_surroundings(self, place, other):
        """Keeps what must be alike for akin places that are unlike to bar; nothing if they never do."""
        pairs = [(place, other)]
        for mine, its in zip(self.neighbours[place], self.neighbours[other]):
            if (mine is None) != (its is None):
                return
            if mine is not None:
                pairs.append((min(mine, its), max(mine, its)))
        self.needs[(place, other)] = pairs


def neighbours_of(sheet):
    """For each place of a sheet the pair of the place just ahead and the one just behind, None for none."""
    found = []
    for number, (row, at) in enumerate(sheet.places):
        ahead = None if at == 0 else number - 1
        behind = number + 1 if (row, at + 1) in sheet.places else None
        found.append((ahead, behind))
    return found


def are_all_alike(sounds, pairs):
    """Whether the two places of each of some pairs are dyed alike; None is no sound."""
    for place, other in pairs:
        if sounds[place] is None or sounds[place] != sounds[other]:
            return False
    return True


def is_barred_by(grounds, sounds, pair):
    """Whether a pair of places bars what is dyed, with the sounds of the places as far as they have some."""
    return pair in grounds.needs and are_all_alike(sounds, grounds.needs[pair])


def least_barring(grounds, dyeing):
    """The least pair of places that bar a dyeing, None for a mother."""
    for pair, pairs in grounds.needs.items():
        place, other = pair
        # Most pairs are unlike themselves: they are not asked for more.
        if dyeing[place] == dyeing[other] and are_all_alike(dyeing, pairs):
            return pair
    return None
