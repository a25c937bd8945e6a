"""Which values are right papers of what is sure, never or open."""

from foretongue.answers import AtOnce, Clash, Never, Open, Sure, cuts_of, need_told_saying, need_told_sayings, others_of
from foretongue.check_mothers import is_right_mother
from foretongue.checks import is_list
from foretongue.claims import settled
from foretongue.dyed_places import dyed_whole
from foretongue.grounds import Grounds
from foretongue.lots import is_lot
from foretongue.papers import is_called
from foretongue.right_trees import is_right_tree
from foretongue.sureties import Rows, sets_asked


def is_mother_with(grounds, most, claims, dyeing):
    """Whether a value is a mother of at most so many sounds for which all these claims hold."""
    if not is_right_mother(grounds, most, dyeing):
        return False
    return all([settled(claim, dyed_whole(dyeing)) for claim in claims])


def is_mother_without(grounds, most, claim, dyeing):
    """Whether a value is a mother of at most so many sounds for which a claim does not hold."""
    return is_right_mother(grounds, most, dyeing) and not settled(claim, dyed_whole(dyeing))


def shows_answer(sheet, width, most, saying, value):
    """Whether a value is a Sure or a Never with a right tree, or a right Open."""
    need_told_saying(sheet, width, most, saying)
    grounds = Grounds(sheet, width)
    claim = saying.claim_in(sheet)
    if isinstance(value, Sure) and is_called(value, "Sure"):
        return is_right_tree(grounds, most, [(claim, True)], value.tree)
    if isinstance(value, Never) and is_called(value, "Never"):
        return is_right_tree(grounds, most, [(claim, False)], value.tree)
    if isinstance(value, Open) and is_called(value, "Open"):
        if not is_mother_with(grounds, most, [claim], value.one):
            return False
        return is_mother_without(grounds, most, claim, value.other)
    return False


def is_clash(grounds, most, claims, value):
    """Whether a Clash has a right tree of its sayings at once, and a mother for the others of each."""
    if not is_lot(value.numbers, len(claims)):
        return False
    if not is_list(value.others) or len(value.others) != len(value.numbers):
        return False
    for number, dyeing in zip(value.numbers, value.others):
        kept = [claims[other] for other in others_of(value.numbers, number)]
        if not is_mother_with(grounds, most, kept, dyeing):
            return False
    return is_right_tree(grounds, most, cuts_of(claims, value.numbers), value.tree)


def shows_at_once(sheet, width, most, sayings, value):
    """Whether a value is a right AtOnce or Clash."""
    need_told_sayings(sheet, width, most, sayings)
    grounds = Grounds(sheet, width)
    claims = [saying.claim_in(sheet) for saying in sayings]
    if isinstance(value, AtOnce) and is_called(value, "AtOnce"):
        return is_mother_with(grounds, most, claims, value.dyeing)
    if isinstance(value, Clash) and is_called(value, "Clash"):
        return is_clash(grounds, most, claims, value)
    return False


def is_against_on_rows(sheet, width, most, saying, rows, dyeing):
    """Whether a value is a mother of the sheet of these rows for which the saying does not hold."""
    part = sheet.of_rows(rows)
    return is_mother_without(Grounds(part, width), most, saying.told_by(rows).claim_in(part), dyeing)


def is_right_rows(sheet, width, most, saying, value):
    """Whether a Rows has rows that are asked, a right tree, and a mother for each set ahead."""
    sets = sets_asked(len(sheet.rows), saying.rows)
    if not is_lot(value.rows, len(sheet.rows)) or value.rows not in sets:
        return False
    ahead = sets[:sets.index(value.rows)]
    if not is_list(value.others) or len(value.others) != len(ahead):
        return False
    for rows, dyeing in zip(ahead, value.others):
        if not is_against_on_rows(sheet, width, most, saying, rows, dyeing):
            return False
    part = sheet.of_rows(value.rows)
    claim = saying.told_by(value.rows).claim_in(part)
    return is_right_tree(Grounds(part, width), most, [(claim, True)], value.tree)


def shows_rows(sheet, width, most, saying, value):
    """Whether a value is a right Rows."""
    need_told_saying(sheet, width, most, saying)
    if not isinstance(value, Rows) or not is_called(value, "Rows"):
        return False
    return is_right_rows(sheet, width, most, saying, value)
