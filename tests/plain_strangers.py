"""Plain readings of what the document says of strangers and layers, by a look at all lots of rows."""

from itertools import combinations

from foretongue.sheets import Sheet
from tests.plain_mothers import is_mother_told, mothers_of_rows, no_end, plain_right_tree


def some_rows(chance, rows=5, most=6, letters="asi-"):
    """A whole sheet of at most so many rows and places, some rows told twice or turned about."""
    names = ["x", "y", "b2"][:chance.randrange(1, 4)]
    many, room, told = chance.randrange(1, rows + 1), most, []
    while len(told) < many and room > 0:
        length = chance.randrange(1, min(2, room) + 1)
        cells = ["".join(chance.choices(letters, k=length)) for _ in names]
        if told and chance.random() < 0.3 and len(told[-1][0]) <= room:
            cells = told[-1] if chance.random() < 0.5 else [cell[::-1] for cell in told[-1]]
        told.append(cells)
        room -= len(cells[0])
    return Sheet(names, told)


def lots(many):
    """All lots of so many rows, the empty one, too: fewer rows first, then as tuples."""
    return [lot for size in range(many + 1) for lot in combinations(range(many), size)]


def all_shut(sheet, width, most):
    """All lots of rows that are shut."""
    return [lot for lot in lots(len(sheet.rows)) if not mothers_of_rows(sheet, width, most, lot)]


def bars_among(shut):
    return [lot for lot in shut if not any(set(other) < set(lot) for other in shut)]


def others(sheet, rows):
    return tuple(row for row in range(len(sheet.rows)) if row not in rows)


def plain_strangers(sheet, shut):
    """All fewest lots without which the others are not shut."""
    told = [lot for lot in lots(len(sheet.rows)) if others(sheet, lot) not in shut]
    return tuple(sorted(lot for lot in told if len(lot) == len(told[0])))


def plain_layers(sheet, shut):
    """The least lot with row 0 that makes layers with the others, None without any."""
    told = [lot for lot in lots(len(sheet.rows)) if 0 in lot and lot not in shut and others(sheet, lot) not in shut]
    return min(told, default=None)


def is_lot(value, many):
    if type(value) is not tuple or any(type(row) is not int or not 0 <= row < many for row in value):
        return False
    return list(value) == sorted(set(value))


def is_mother_of(sheet, width, most, rows, dyeing):
    """Whether a value, lists as tuples, is a mother of the sheet of these rows."""
    if not rows:
        return dyeing == () and type(dyeing) is tuple
    return is_mother_told(sheet.of_rows(rows), width, most, dyeing)


def are_bars(sheet, width, most, bars):
    if type(bars) is not tuple or any(type(bar) is not tuple or len(bar) != 2 for bar in bars):
        return False
    return all(is_lot(lot, len(sheet.rows)) and lot != () and plain_right_tree(sheet.of_rows(lot), width, most, tree, no_end)
               for lot, tree in bars)


def leaves_some(bars, rows):
    """Whether some rows have all of a bar's lot."""
    return any(set(lot) <= set(rows) for lot, _ in bars)


def is_strangers(sheet, width, most, rows, dyeing, bars):
    if not is_lot(rows, len(sheet.rows)) or not is_mother_of(sheet, width, most, others(sheet, rows), dyeing):
        return False
    fewer = [lot for lot in lots(len(sheet.rows)) if len(lot) < len(rows)]
    return are_bars(sheet, width, most, bars) and all(leaves_some(bars, others(sheet, lot)) for lot in fewer)


def is_layers(sheet, width, most, rows, one, other):
    if not is_lot(rows, len(sheet.rows)) or 0 not in rows:
        return False
    return is_mother_of(sheet, width, most, rows, one) and is_mother_of(sheet, width, most, others(sheet, rows), other)


def is_no_layers(sheet, width, most, bars):
    if not are_bars(sheet, width, most, bars):
        return False
    return all(leaves_some(bars, lot) or leaves_some(bars, others(sheet, lot)) for lot in lots(len(sheet.rows)))
