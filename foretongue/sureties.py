"""What is sure of the places of a sheet, and the fewest rows for which a saying is sure."""

from foretongue.answers import Sure, need_told_saying, told_answer
from foretongue.claims import SAME
from foretongue.columns import pairs_of_places
from foretongue.errors import Impossible, TooMany
from foretongue.grounds import Grounds
from foretongue.lots import lots_below
from foretongue.mothers import need_asked, need_few_places
from foretongue.papers import Paper
from foretongue.refusing import told_mother
from foretongue.walks import least_mother, mother_beside, refusing_tree

MOST_ROWS = 5


class Rows(Paper):
    """Rows for which a saying is sure, a tree of them, and a mother against it for each set ahead."""

    def __init__(self, rows, tree, others):
        super().__init__("rows", rows, tree, others)
        self.rows, self.tree, self.others = self.parts


def keep_met(met, dyeing):
    """Keeps of each two places that they are alike, or that they are unlike, in one more mother."""
    for place, other in pairs_of_places(len(dyeing)):
        met[(place, other, dyeing[place] == dyeing[other])] = True


def all_met(sheet, width, most):
    """For each two places whether some mother has them alike, and whether some has them unlike.

    The keys of the dict are triples of two places and a truth; Impossible without a mother.
    """
    grounds = Grounds(sheet, width)
    first = least_mother(grounds, most)
    if first is None:
        raise Impossible(told_mother(sheet, width, most))
    met = {}
    keep_met(met, first)
    for place, other in pairs_of_places(grounds.many):
        for truth in (True, False):
            if (place, other, truth) not in met:
                dyeing = mother_beside(grounds, most, [((SAME, place, other), not truth)])
                if dyeing is not None:
                    keep_met(met, dyeing)
    return met


def word_of(met, place, other):
    """What answer tells of two places, by what is met in mothers."""
    if (place, other, False) not in met:
        return "sure"
    return "open" if (place, other, True) in met else "never"


def pairs_told(sheet, width, most):
    """For each two places a triple with sure, never or open, as they are of one sound."""
    need_asked(sheet, width, most)
    met = all_met(sheet, width, most)
    return tuple([(place, other, word_of(met, place, other)) for place, other in pairs_of_places(len(sheet.places))])


def sure_lots(sheet, width, most):
    """The parting of the places into lots of those that are one sound for sure."""
    need_asked(sheet, width, most)
    met = all_met(sheet, width, most)
    lots = {}
    for place in range(len(sheet.places)):
        # What is one for sure with one place is so with all of its lot: its least place tells.
        least = [other for other in range(place) if (other, place, False) not in met]
        lots.setdefault(min(least, default=place), []).append(place)
    return tuple([tuple(lot) for lot in list(lots.values())])


def sets_asked(many, named):
    """All sets of one row or more that have the rows named: fewer rows first, then as tuples."""
    return [lot for lot in lots_below(many) if len(lot) > 0 and all([row in lot for row in named])]


def against_on_rows(sheet, width, most, saying, rows):
    """Any mother of the sheet of these rows for which the saying does not hold, None without any."""
    part = sheet.of_rows(rows)
    claim = saying.told_by(rows).claim_in(part)
    return mother_beside(Grounds(part, width), most, [(claim, True)])


def sure_tree(sheet, width, most, saying, rows):
    """A tree for a saying that is sure of the sheet of these rows."""
    part = sheet.of_rows(rows)
    claim = saying.told_by(rows).claim_in(part)
    return refusing_tree(Grounds(part, width), most, [(claim, True)])


def fewest_rows(sheet, width, most, saying):
    """The Rows of the first set for which a saying is sure, or the paper of answer if it is not sure."""
    need_told_saying(sheet, width, most, saying)
    need_few_places(sheet)
    told = told_answer(sheet, width, most, saying)
    if len(sheet.rows) > MOST_ROWS:
        raise TooMany("rows", MOST_ROWS)
    if not isinstance(told, Sure):
        return told
    others = []
    for rows in sets_asked(len(sheet.rows), saying.rows):
        dyeing = against_on_rows(sheet, width, most, saying, rows)
        if dyeing is None:
            return Rows(rows, sure_tree(sheet, width, most, saying, rows), others)
        others.append(dyeing)
    return told
