"""Loose fillings of the gaps of a sheet: digits stand for sounds that a language has in no cell."""

from foretongue.cells import width_of
from foretongue.columns import NOTHING_LEFT
from foretongue.sheets import Sheet

LETTERS = "abcdefghijklmnopqrstuvwxyz"
DIGITS = "0123456789"


def languages_of_gaps(sheet):
    """The list of the languages of the gaps of a sheet, gap by gap."""
    return [language for _, language in sheet.gaps]


def signs_known(sheet):
    """For each language of a sheet the ascending string of `-` and of the sounds in its cells."""
    known = {}
    for at, language in enumerate(sheet.languages):
        cells = [row[at] for row in sheet.rows if row[at] is not None]
        known[language] = "".join(sorted(set("".join([NOTHING_LEFT, *cells]))))
    return known


def counted_anew(cells, languages, known):
    """Some cells of these languages, with digits for the signs that their language does not know.

    The digits of a language count from 0 as its unknown signs first stand.
    """
    numbers = {}
    made = []
    for cell, language in zip(cells, languages):
        told = numbers.setdefault(language, {})
        signs = [sign if sign in known[language] else str(told.setdefault(sign, len(told))) for sign in cell]
        made.append("".join(signs))
    return tuple(made)


def is_loose_filling(sheet, cells):
    """Whether as many strings as there are gaps, each as long as its row's cells, are a loose filling."""
    return counted_anew(cells, languages_of_gaps(sheet), signs_known(sheet)) == tuple(cells)


def whole_sheet(sheet, cells):
    """The whole Sheet of a loose filling: its digits are the least sounds that the language has in no cell."""
    known = signs_known(sheet)
    rows = [list(row) for row in sheet.rows]
    for (row, language), cell in zip(sheet.gaps, cells):
        fresh = [letter for letter in LETTERS if letter not in known[language]]
        signs = [fresh[int(sign)] if sign in DIGITS else sign for sign in cell]
        rows[row][sheet.languages.index(language)] = "".join(signs)
    return Sheet(sheet.languages, rows)


def many_loose(length, many):
    """How many ways there are for so many signs of gaps, with so many known signs.

    Each sign is a known one, a digit that stands ahead, or the next digit.
    """
    counts = [1]
    for _ in range(length):
        longer = [0] * (len(counts) + 1)
        for digits, count in enumerate(counts):
            longer[digits] += count * (many + digits)
            longer[digits + 1] += count
        counts = longer
    return sum(counts)


def many_fillings(sheet):
    """How many loose fillings a sheet has, whether or not they can stand."""
    known = signs_known(sheet)
    many = 1
    for language in sheet.languages:
        length = sum([width_of(sheet.rows[row]) for row, name in sheet.gaps if name == language])
        many *= many_loose(length, len(known[language]))
    return many


def digits_in(cells):
    """How many digits stand in some cells: they count from 0."""
    return len(sorted(set([sign for cell in cells for sign in cell if sign in DIGITS])))


def loose_cells(length, known, digits):
    """All loose cells of so many signs, for so many digits that stand ahead in gaps of the language."""
    found = [""]
    for _ in range(length):
        longer = []
        for cell in found:
            many = max([digits] + [int(sign) + 1 for sign in cell if sign in DIGITS])
            longer.extend([cell + sign for sign in DIGITS[:many + 1] + known])
        found = longer
    return found


def loose_fillings(sheet):
    """The ascending list of all loose fillings of a sheet."""
    known = signs_known(sheet)
    languages = languages_of_gaps(sheet)
    found = [()]
    for row, language in sheet.gaps:
        length = width_of(sheet.rows[row])
        longer = []
        for filling in found:
            digits = digits_in([cell for cell, name in zip(filling, languages) if name == language])
            longer.extend([(*filling, cell) for cell in loose_cells(length, known[language], digits)])
        found = longer
    return sorted(found)


def part_of(sheet, filling, numbers):
    """The part of a loose filling at the gaps with these numbers, its digits counted anew."""
    languages = languages_of_gaps(sheet)
    cells = [filling[number] for number in numbers]
    return counted_anew(cells, [languages[number] for number in numbers], signs_known(sheet))


def cell_at(sheet, filling, number):
    """The cell of a loose filling at the gap with this number."""
    return part_of(sheet, filling, [number])[0]
