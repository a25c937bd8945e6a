"""Whether sayings about the mothers of a sheet are sure, never or open, and which hold at once."""

from foretongue.checks import is_list
from foretongue.errors import BadSaying, Impossible
from foretongue.grounds import Grounds
from foretongue.mothers import need_few_places, need_told
from foretongue.papers import Denial, Paper
from foretongue.refusing import told_mother
from foretongue.sayings import need_saying
from foretongue.walks import mother_beside, refusing_tree

MOST_AT_ONCE = 6


class Sure(Paper):
    """The saying holds for all mothers: a tree with this aim."""

    def __init__(self, tree):
        super().__init__("sure", tree)
        self.tree = self.parts[0]


class Never(Denial):
    """The saying holds for no mother: a tree with this aim."""

    def __init__(self, tree):
        super().__init__("never", tree)
        self.tree = self.parts[0]


class Open(Paper):
    """A mother for which the saying holds, and one for which it does not."""

    def __init__(self, one, other):
        super().__init__("open", one, other)
        self.one, self.other = self.parts


class AtOnce(Paper):
    """A mother for which all of some sayings hold."""

    def __init__(self, dyeing):
        super().__init__("atonce", dyeing)
        self.dyeing = self.parts[0]


class Clash(Denial):
    """Numbers of sayings that never hold at once, a tree of them, a mother for the others of each."""

    def __init__(self, numbers, tree, others):
        super().__init__("clash", numbers, tree, others)
        self.numbers, self.tree, self.others = self.parts


def need_told_saying(sheet, width, most, saying):
    """The errors of a saying that is told of a sheet, of however many places."""
    need_told(sheet, width, most)
    need_saying(saying, "saying")
    saying.need_in(sheet)


def need_told_sayings(sheet, width, most, sayings):
    """The errors of some sayings that are told of a sheet, of however many places."""
    need_told(sheet, width, most)
    if not is_list(sayings) or not 1 <= len(sayings) <= MOST_AT_ONCE:
        raise BadSaying("sayings")
    for saying in sayings:
        need_saying(saying, "sayings")
    for saying in sayings:
        saying.need_in(sheet)


def told_answer(sheet, width, most, saying):
    """The Sure, Never or Open of a saying; Impossible without a mother."""
    grounds = Grounds(sheet, width)
    claim = saying.claim_in(sheet)
    one = mother_beside(grounds, most, [(claim, False)])
    other = mother_beside(grounds, most, [(claim, True)])
    if one is None and other is None:
        raise Impossible(told_mother(sheet, width, most))
    if other is None:
        return Sure(refusing_tree(grounds, most, [(claim, True)]))
    if one is None:
        return Never(refusing_tree(grounds, most, [(claim, False)]))
    return Open(one, other)


def answer(sheet, width, most, saying):
    """The Sure, Never or Open of a saying."""
    need_told_saying(sheet, width, most, saying)
    need_few_places(sheet)
    return told_answer(sheet, width, most, saying)


def cuts_of(claims, numbers):
    """The cuts of the claims with these numbers at once: one of them is settled to False."""
    return [(claims[number], False) for number in numbers]


def others_of(numbers, struck):
    """The numbers without one of them."""
    return [number for number in numbers if number != struck]


def clashing(grounds, most, claims):
    """Numbers of claims that never hold at once, but do without any one of them."""
    numbers = list(range(len(claims)))
    for number in range(len(claims)):
        left = others_of(numbers, number)
        if mother_beside(grounds, most, cuts_of(claims, left)) is None:
            numbers = left
    return numbers


def kept_at_once(sheet, width, most, sayings):
    """The AtOnce of a mother for which all sayings hold, or the Clash of some that never do."""
    need_told_sayings(sheet, width, most, sayings)
    need_few_places(sheet)
    grounds = Grounds(sheet, width)
    claims = [saying.claim_in(sheet) for saying in sayings]
    dyeing = mother_beside(grounds, most, cuts_of(claims, list(range(len(claims)))))
    if dyeing is not None:
        return AtOnce(dyeing)
    numbers = clashing(grounds, most, claims)
    if len(numbers) == 0:
        raise Impossible(told_mother(sheet, width, most))
    others = [mother_beside(grounds, most, cuts_of(claims, others_of(numbers, number))) for number in numbers]
    return Clash(numbers, refusing_tree(grounds, most, cuts_of(claims, numbers)), others)
