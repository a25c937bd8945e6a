"""Plain readings of what the document says of mothers, by a look at all dyeings."""

from foretongue.sayings import AlikeRows, Both, Not, Same, Sizes
from foretongue.sheets import Sheet
from tests.helper import ODD, error_of

GAPS = Sheet(["one", "two"], [["sa", None]])
NINE = Sheet(["x"], [["a" * 9]])
WRONG_WIDTHS = [2, -1, True, False, None, 1.0, "1", [1]]
WRONG_SIZES = [0, 9, -1, True, False, None, 1.0, "1", [1]]


def check_errors(case, call, is_sized, more=0):
    """The errors of a sheet, a width and, if it is sized, a greatest size, ahead of so many other values."""
    behind = is_sized + more
    for value in ODD:
        case.assertEqual(error_of(call, value, value, *[value] * behind), ("BadSheet", ("sheet",)))
        case.assertEqual(error_of(call, GAPS, value, *[value] * behind), ("BadSheet", ("gaps",)))
    for value in WRONG_WIDTHS:
        case.assertEqual(error_of(call, NINE, value, *[value] * behind), ("BadNumber", ("width",)))
    for value in WRONG_SIZES if is_sized else []:
        case.assertEqual(error_of(call, NINE, 1, value, *[value] * more), ("BadNumber", ("most",)))


def all_dyeings(many):
    """All dyeings of so many places, ascending."""
    found = [()]
    for _ in range(many):
        found = [dyeing + (sound,) for dyeing in found for sound in range(max(dyeing, default=-1) + 2)]
    return found


def some_whole_sheet(chance, most=6, letters="asz-", languages=3):
    """A whole sheet of at most so many places and languages, in which many signs are alike."""
    names = ["one", "b2", "x", "y"][:chance.randrange(1, languages + 1)]
    rows, room = [], chance.randrange(1, most + 1)
    while room > 0 and len(rows) < 6:
        length = chance.randrange(1, min(3, room) + 1)
        ground = "".join(chance.choices(letters, k=length))
        cells = ["".join(sign if chance.random() < 0.6 else chance.choice(letters) for sign in ground) for _ in names]
        rows.append(cells)
        room -= length
    return Sheet(names, rows)


def column(sheet, place):
    row, at = sheet.places[place]
    return tuple(cell[at] for cell in sheet.rows[row])


def plain_akin(sheet, place, other):
    one, its = column(sheet, place), column(sheet, other)
    return one == its or any(sign == beside != "-" for sign, beside in zip(one, its))


def beside(sheet, place, way):
    """The place just ahead, of way -1, or just behind, of way 1; None without one."""
    row, at = sheet.places[place]
    return sheet.places.index((row, at + way)) if (row, at + way) in sheet.places else None


def side_is_alike(sheet, dyed, place, other, way):
    mine, its = beside(sheet, place, way), beside(sheet, other, way)
    if mine is None or its is None:
        return mine is its
    return dyed[mine] is not None and dyed[mine] == dyed[its]


def plain_bars(sheet, width, dyed, place, other):
    """Whether two places bar a dyeing, or what is dyed of it: None is no sound."""
    if dyed[place] is None or dyed[place] != dyed[other]:
        return False
    if not plain_akin(sheet, place, other):
        return True
    if column(sheet, place) == column(sheet, other):
        return False
    return width == 0 or all(side_is_alike(sheet, dyed, place, other, way) for way in (-1, 1))


def barring_pairs(sheet, width, dyeing):
    many = len(dyeing)
    return [(place, other) for place in range(many) for other in range(place + 1, many)
            if plain_bars(sheet, width, dyeing, place, other)]


def size(dyeing):
    return len(set(dyeing))


def plain_mothers(sheet, width, most=99):
    return [dyeing for dyeing in all_dyeings(len(sheet.places))
            if size(dyeing) <= most and not barring_pairs(sheet, width, dyeing)]


def mothers_of_rows(sheet, width, most, rows):
    return plain_mothers(sheet.of_rows(rows), width, most) if rows else [()]


def is_plain_dyeing(value):
    if type(value) is not tuple or any(type(sound) is not int for sound in value):
        return False
    return value in all_dyeings(len(value)) if len(value) <= 8 else is_long_dyeing(value)


def is_long_dyeing(value):
    return all(0 <= sound <= max(value[:at], default=-1) + 1 for at, sound in enumerate(value)) and len(value) <= 12


def is_mother_told(sheet, width, most, value):
    """Whether a value, lists as tuples, is a mother of at most so many sounds."""
    if not is_plain_dyeing(value) or len(value) != len(sheet.places):
        return False
    return size(value) <= most and not barring_pairs(sheet, width, value)


def plain_settled(saying, sheet, dyed, most):
    """How a saying is settled by what is dyed: True, False or None."""
    if isinstance(saying, Same):
        one, other = (dyed[sheet.places.index(place)] for place in (saying.place, saying.other))
        return None if one is None or other is None else one == other
    if isinstance(saying, AlikeRows):
        mine, its = sheet.places_of(saying.row), sheet.places_of(saying.other)
        if len(mine) != len(its):
            return False
        pairs = [(dyed[one], dyed[other]) for one, other in zip(mine, its)]
        if any(None not in pair and pair[0] != pair[1] for pair in pairs):
            return False
        return None if any(None in pair for pair in pairs) else True
    if isinstance(saying, Sizes):
        stand, left = len(set(dyed) - {None}), dyed.count(None)
        if stand >= saying.size:
            return True
        return False if most < saying.size or stand + left < saying.size else None
    if isinstance(saying, Not):
        told = plain_settled(saying.saying, sheet, dyed, most)
        return None if told is None else not told
    both = [plain_settled(one, sheet, dyed, most) for one in (saying.one, saying.other)]
    return False if False in both else None if None in both else True


def plain_holds(saying, sheet, dyeing):
    return plain_settled(saying, sheet, list(dyeing), 99)


def is_number(value):
    return type(value) is int


def plain_right_tree(sheet, width, most, tree, may_end, dyed=None):
    """Whether a value, lists as tuples, is a right tree; may_end tells of what is dyed whether None can stand."""
    dyed = dyed or [None] * len(sheet.places)
    if tree is None:
        return may_end(dyed)
    if type(tree) is not tuple or len(tree) != 2:
        return False
    place, below = tree
    if is_number(below):
        return is_number(place) and 0 <= place < below < len(dyed) and plain_bars(sheet, width, dyed, place, below)
    if not is_number(place) or not 0 <= place < len(dyed) or dyed[place] is not None or type(below) is not tuple:
        return False
    stand = len(set(dyed) - {None})
    if len(below) != stand + (stand < most):
        return False
    return all(plain_right_tree(sheet, width, most, branch, may_end, dyed[:place] + [sound] + dyed[place + 1:])
               for sound, branch in enumerate(below))


def no_end(dyed):
    return False


def plain_tree(sheet, width, most, places, may_end, dyed=None):
    """A right tree that dyes the places in this order, for where there is one."""
    dyed = dyed or [None] * len(sheet.places)
    if may_end(dyed):
        return None
    pairs = barring_pairs(sheet, width, dyed)
    if pairs:
        return pairs[-1]
    stand = len(set(dyed) - {None})
    place = places[0]
    return place, tuple(plain_tree(sheet, width, most, places[1:], may_end, dyed[:place] + [sound] + dyed[place + 1:])
                        for sound in range(stand + (stand < most)))


def some_saying(chance, sheet, deep=3):
    """A saying of the sheet."""
    word = chance.choice(["same", "same", "rows", "size"] + ["not", "both"] * (deep > 0))
    if word == "same" and len(sheet.places) > 1:
        return Same(*chance.sample(sheet.places, 2))
    if word == "rows" and len(sheet.rows) > 1:
        return AlikeRows(*chance.sample(range(len(sheet.rows)), 2))
    if word == "not":
        return Not(some_saying(chance, sheet, deep - 1))
    if word == "both":
        return Both(some_saying(chance, sheet, deep - 1), some_saying(chance, sheet, deep - 1))
    return Sizes(chance.randrange(1, len(sheet.places) + 3))


def tuples(value):
    """A value with each list in it as a tuple."""
    return tuple(tuples(part) for part in value) if isinstance(value, (list, tuple)) else value


def orders_of_places(chance, sheet):
    return chance.sample(range(len(sheet.places)), len(sheet.places))
