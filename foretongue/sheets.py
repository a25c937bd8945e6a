"""Sheets: words of several languages side by side."""

from foretongue.cells import has_cell, is_cell, is_even, is_row, width_of
from foretongue.checks import first_twice, is_list, is_name, is_numbers, is_within
from foretongue.errors import BadNumber, BadSheet, Misfit, NoLanguage, NoPlace, NoRow, TooMany, Twice
from foretongue.sheet_texts import GAP, MOST_LANGUAGES, MOST_PLACES, MOST_ROWS, sheet_items_from
from foretongue.texts import items_of


def need_names(languages):
    """BadSheet for what is no list of one or more names."""
    if not is_list(languages) or len(languages) == 0 or not all([is_name(name) for name in languages]):
        raise BadSheet("languages")


def need_once(values):
    """Twice for the first integer or string that equals one ahead of it."""
    twice = first_twice(values)
    if twice is not None:
        raise Twice(twice)


def need_rows(rows, many):
    """BadSheet for what is no list of one or more rows, none of gaps alone."""
    if not is_list(rows) or len(rows) == 0:
        raise BadSheet("rows")
    if not all([is_row(row, many) and has_cell(row) for row in rows]):
        raise BadSheet("rows")


def need_sizes(languages, rows):
    """What does not fit in a sheet, and what is too many."""
    if not all([is_even(row) for row in rows]):
        raise Misfit("places")
    if len(languages) > MOST_LANGUAGES:
        raise TooMany("languages", MOST_LANGUAGES)
    if len(rows) > MOST_ROWS:
        raise TooMany("rows", MOST_ROWS)
    if sum([width_of(row) for row in rows]) > MOST_PLACES:
        raise TooMany("places", MOST_PLACES)


def need_sheet(value, part):
    """BadSheet for what is no sheet."""
    if not isinstance(value, Sheet):
        raise BadSheet(part)


def need_whole(value, part):
    """BadSheet for what is no sheet, or has gaps."""
    need_sheet(value, part)
    if not value.is_whole:
        raise BadSheet("gaps")


def need_row(sheet, row):
    """NoRow for what is no number of a row of the sheet."""
    if not is_within(row, 0, len(sheet.rows) - 1):
        raise NoRow(row)


def need_language(sheet, language):
    """NoLanguage for what is no language of the sheet."""
    if not isinstance(language, str) or language not in sheet.languages:
        raise NoLanguage(language)


def need_place(sheet, place):
    """NoPlace for what is no number of a place of the sheet."""
    if not is_within(place, 0, len(sheet.places) - 1):
        raise NoPlace(place)


def need_different_rows(sheet, rows):
    """The first number that is none of a row of the sheet, then the first that stands twice."""
    for row in rows:
        need_row(sheet, row)
    need_once(rows)


def places_in(rows):
    """The tuple of all places of some rows as pairs, in the order of their numbers."""
    return tuple([(number, place) for number, row in enumerate(rows) for place in range(width_of(row))])


def gaps_in(languages, rows):
    """The tuple of all gaps of some rows as pairs of a row's number and a language."""
    return tuple([
        (number, language)
        for number, row in enumerate(rows)
        for language, cell in zip(languages, row)
        if cell is None
    ])


def row_text(row):
    """The items of a row in the text of a sheet."""
    return " ".join([GAP if cell is None else cell for cell in row])


class Sheet:
    """Languages, and rows in which each of them has a cell or a gap."""

    def __init__(self, languages, rows):
        need_names(languages)
        need_once(languages)
        need_rows(rows, len(languages))
        need_sizes(languages, rows)
        self.languages = tuple(languages)
        self.rows = tuple([tuple(row) for row in rows])
        self.places = places_in(self.rows)
        self.gaps = gaps_in(self.languages, self.rows)
        self.is_whole = len(self.gaps) == 0

    def __eq__(self, other):
        if not isinstance(other, Sheet):
            return False
        return self.languages == other.languages and self.rows == other.rows

    def __str__(self):
        return " : ".join([" ".join(self.languages), " / ".join([row_text(row) for row in self.rows])])

    def cell(self, row, language):
        """The cell of a language in a row, None for a gap."""
        need_row(self, row)
        need_language(self, language)
        return self.rows[row][self.languages.index(language)]

    def word(self, row, language):
        """The sounds of a cell, None for a gap."""
        cell = self.cell(row, language)
        if cell is None:
            return None
        return cell.replace("-", "")

    def places_of(self, row):
        """The tuple of the numbers of a row's places."""
        need_row(self, row)
        return tuple([number for number, place in enumerate(self.places) if place[0] == row])

    def column(self, place):
        """The column row of a place, told by its number."""
        need_place(self, place)
        row, index = self.places[place]
        return tuple([None if cell is None else cell[index] for cell in self.rows[row]])

    def number_of(self, place):
        """The number of a place, told as a pair."""
        if not is_numbers(place) or tuple(place) not in self.places:
            raise NoPlace(place)
        return self.places.index(tuple(place))

    def of_rows(self, rows):
        """The sheet of these rows alone, in the order told."""
        if not is_numbers(rows) or len(rows) == 0:
            raise BadNumber("rows")
        need_different_rows(self, rows)
        return Sheet(self.languages, [self.rows[row] for row in rows])

    def without(self, rows):
        """The sheet of the other rows, in their order."""
        if not is_numbers(rows):
            raise BadNumber("rows")
        need_different_rows(self, rows)
        left = [cells for number, cells in enumerate(self.rows) if number not in rows]
        if len(left) == 0:
            raise BadSheet("rows")
        return Sheet(self.languages, left)

    def of_languages(self, languages):
        """The sheet of these languages alone, in the order told."""
        need_names(languages)
        for language in languages:
            need_language(self, language)
        indices = [self.languages.index(language) for language in languages]
        return Sheet(languages, [[row[index] for index in indices] for row in self.rows])

    def with_cell(self, row, language, cell):
        """The sheet with a cell, or a gap, in the place of what stands there."""
        need_row(self, row)
        need_language(self, language)
        if cell is not None and not is_cell(cell):
            raise BadSheet("cell")
        if cell is not None and len(cell) != width_of(self.rows[row]):
            raise Misfit("places")
        rows = [list(cells) for cells in self.rows]
        rows[row][self.languages.index(language)] = cell
        return Sheet(self.languages, rows)

    def with_row(self, cells):
        """The sheet with one more row behind."""
        if not is_row(cells, len(self.languages)) or not has_cell(cells):
            raise BadSheet("cells")
        return Sheet(self.languages, [*self.rows, cells])

    def joined(self, other):
        """The sheet with the languages of another one behind."""
        need_sheet(other, "other")
        for language in other.languages:
            if language in self.languages:
                raise Twice(language)
        if self.places != other.places:
            raise Misfit("places")
        rows = [[*mine, *its] for mine, its in zip(self.rows, other.rows)]
        return Sheet([*self.languages, *other.languages], rows)

    @staticmethod
    def read(text):
        """The sheet whose text this is."""
        languages, rows = sheet_items_from(items_of(text), 0)
        return Sheet(languages, rows)
