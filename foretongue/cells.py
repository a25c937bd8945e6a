"""Cells of sheets: strings of sounds and `-`, or None for a gap."""

from foretongue.checks import is_list, is_long_word


def is_cell(value):
    """Whether a value is a cell: one or more signs."""
    return isinstance(value, str) and value != "" and is_long_word(value.replace("-", ""))


def is_row(value, many):
    """Whether a value is a list of a cell, or None, for each of so many languages."""
    if not is_list(value) or len(value) != many:
        return False
    return all([cell is None or is_cell(cell) for cell in value])


def has_cell(row):
    """Whether a row is not of gaps alone."""
    return any([cell is not None for cell in row])


def lengths_of(row):
    """The list of how many signs the cells of a row have, gaps left out."""
    return [len(cell) for cell in row if cell is not None]


def is_even(row):
    """Whether the cells of a row are equally long."""
    lengths = lengths_of(row)
    return min(lengths) == max(lengths)


def width_of(row):
    """How many places a row of equally long cells has."""
    return lengths_of(row)[0]
