"""Plain readings of what the document says of gaps, by a listing of all fillings."""

from functools import lru_cache
from itertools import combinations, product

from foretongue.errors import TongueError
from foretongue.sheets import Sheet
from tests.plain_mothers import plain_holds, plain_mothers, size

LETTERS = "abcdefghijklmnopqrstuvwxyz"
WHOLE = Sheet(["one", "two"], [["sa", "sa"], ["si", "zi"]])
GAPPED = Sheet(["one", "two"], [["sa", None], ["si", "zi"]])
TWO = Sheet(["one", "two"], [["s", None], [None, "z"], ["t", "z"]])
# Nine places; eight places with too many fillings.
NINE = Sheet(["one", "two"], [["saasaasaa", None]])
MANY = Sheet(["one", "two"], [["sa", None], ["sa", None], ["ta", "st"]])


def some_gapped(chance, gaps=2, most=5, letters="as-"):
    """A sheet of at most so many gaps and places, perhaps whole."""
    while True:
        names = ["one", "b2", "x"][:chance.randrange(1, 4)]
        rows, room = [], chance.randrange(1, most + 1)
        while room > 0 and len(rows) < 4:
            length = chance.randrange(1, min(2, room) + 1)
            rows.append(["".join(chance.choices(letters, k=length)) for _ in names])
            room -= length
        for _ in range(chance.randrange(gaps + 1)):
            chance.choice(rows)[chance.randrange(len(names))] = None
        try:
            sheet = Sheet(names, rows)
        except TongueError:
            continue
        if count_fillings(sheet) <= 60:
            return sheet


def lengths(sheet):
    return [len(next(cell for cell in sheet.rows[row] if cell)) for row, _ in sheet.gaps]


def known(sheet, language):
    """The sounds that a language has in its cells."""
    at = sheet.languages.index(language)
    return sorted(set("".join(row[at] or "" for row in sheet.rows)) - {"-"})


def plain_loose(sheet, cells, at=None):
    """The loose filling of a filling, or its part at the gaps with these numbers; digits are exchanged likewise."""
    told, digits = [], {}
    for number in range(len(sheet.gaps)) if at is None else at:
        language = sheet.gaps[number][1]
        made = ""
        for sign in cells[number]:
            if sign != "-" and sign not in known(sheet, language):
                sign = digits.setdefault((language, sign), str(len([key for key in digits if key[0] == language])))
            made += sign
        told.append(made)
    return tuple(told)


def all_loose(sheet):
    """All loose fillings, from all fillings with as many new sounds as can be told apart."""
    choices = []
    for (row, language), length in zip(sheet.gaps, lengths(sheet)):
        total = sum(many for gap, many in zip(sheet.gaps, lengths(sheet)) if gap[1] == language)
        new = [letter for letter in LETTERS if letter not in known(sheet, language)][:total]
        choices.append(["".join(signs) for signs in product(["-", *known(sheet, language), *new], repeat=length)])
    return sorted({plain_loose(sheet, cells) for cells in product(*choices)})


def count_fillings(sheet):
    """How many loose fillings there are, sign by sign: known ones, digits that stand, one digit more."""
    many = 1
    for language in sheet.languages:
        total = sum(length for gap, length in zip(sheet.gaps, lengths(sheet)) if gap[1] == language)
        many *= count_signs(total, len(known(sheet, language)) + 1)
    return many


def count_signs(total, standing):
    if total == 0:
        return 1
    return standing * count_signs(total - 1, standing) + count_signs(total - 1, standing + 1)


def plain_filled(sheet, cells):
    rows = [list(row) for row in sheet.rows]
    for (row, language), cell in zip(sheet.gaps, cells):
        have = known(sheet, language)
        new = [letter for letter in LETTERS if letter not in have]
        made = "".join(new[int(sign)] if sign.isdigit() else sign for sign in cell)
        rows[row][sheet.languages.index(language)] = made
    return Sheet(sheet.languages, rows)


@lru_cache(maxsize=None)
def mothers_by_filling(text, width):
    """The list of all loose fillings of the sheet with this text, each with all mothers of its whole sheet."""
    sheet = Sheet.read(text)
    return [(cells, plain_mothers(plain_filled(sheet, cells), width)) for cells in all_loose(sheet)]


def plain_standing(sheet, width, most):
    """The dict of the loose fillings that can stand, each with all its mothers."""
    told = {cells: [dyeing for dyeing in found if size(dyeing) <= most]
            for cells, found in mothers_by_filling(str(sheet), width)}
    return {cells: found for cells, found in told.items() if found}


def cell_at(sheet, cells, number):
    return plain_loose(sheet, cells, [number])[0]


def counts_at(sheet, standing, number):
    """How many loose fillings have each cell at a gap."""
    told = [cell_at(sheet, cells, number) for cells in standing]
    return {cell: told.count(cell) for cell in told}


def lots_of_gaps(sheet):
    many = len(sheet.gaps)
    return [lot for size in range(many + 1) for lot in combinations(range(many), size)]


def tells_apart(sheet, standing, lot):
    return len({plain_loose(sheet, cells, lot) for cells in standing}) == len(standing)


def word_over(sheet, saying, standing, group):
    """Whether a saying is sure, never or open over all mothers of some loose fillings."""
    told = {plain_holds(saying, sheet, dyeing) for cells in group for dyeing in standing[cells]}
    return "open" if len(told) > 1 else "sure" if True in told else "never"


def settles(sheet, saying, standing, lot):
    for cells in standing:
        group = [other for other in standing if plain_loose(sheet, other, lot) == plain_loose(sheet, cells, lot)]
        if word_over(sheet, saying, standing, group) == "open":
            return False
    return True
