"""Families: languages, and which of them share what fell together."""

from foretongue.checks import first_twice, is_list, is_name, is_numbers, is_within
from foretongue.columns import columns_of, pairs_of_places
from foretongue.dyeings import need_dyed_sheet, need_mother, surroundings_of
from foretongue.errors import BadFamily, BadNumber, BadText, TooMany
from foretongue.sheets import need_once
from foretongue.texts import item_at, items_of, need_end

MOST_LANGUAGES = 5
MOST_SHARINGS = 8
NO_SHARINGS = "-"


def need_family_languages(languages):
    """The errors of what is no list of one to five different names."""
    if not is_list(languages) or len(languages) == 0 or not all([is_name(name) for name in languages]):
        raise BadFamily("languages")
    need_once(languages)
    if len(languages) > MOST_LANGUAGES:
        raise TooMany("languages", MOST_LANGUAGES)


def is_sharing(value, languages):
    """Whether a value is a list of two or more different ones of some languages."""
    if not is_list(value) or len(value) < 2:
        return False
    return all([name in languages for name in value]) and first_twice(value) is None


def need_sharings(sharings, languages):
    """The errors of what is no list of at most eight different sharings of some languages."""
    if not is_list(sharings) or not all([is_sharing(sharing, languages) for sharing in sharings]):
        raise BadFamily("sharings")
    need_once([tuple(sorted(sharing)) for sharing in sharings])
    if len(sharings) > MOST_SHARINGS:
        raise TooMany("sharings", MOST_SHARINGS)


def sharings_text(sharings):
    """The items of some sharings in a text."""
    if len(sharings) == 0:
        return NO_SHARINGS
    return " / ".join([" ".join(sharing) for sharing in sharings])


class Family:
    """One to five languages, and at most eight different sharings of two or more of them."""

    def __init__(self, languages, sharings):
        need_family_languages(languages)
        need_sharings(sharings, languages)
        self.languages = tuple(sorted(languages))
        self.sharings = tuple([tuple(sorted(sharing)) for sharing in sharings])

    def __len__(self):
        return len(self.sharings)

    def __eq__(self, other):
        return isinstance(other, Family) and self.languages == other.languages and self.sharings == other.sharings

    def __str__(self):
        return " : ".join([" ".join(self.languages), sharings_text(self.sharings)])

    def without(self, numbers):
        """The Family without the sharings with these numbers."""
        need_sharing_numbers(self, numbers)
        return Family(self.languages, [one for number, one in enumerate(self.sharings) if number not in numbers])

    def with_language(self, language, numbers):
        """The Family with one language more, which has the sharings with these numbers."""
        if not is_name(language):
            raise BadFamily("language")
        need_sharing_numbers(self, numbers)
        sharings = [
            [*sharing, language] if number in numbers else sharing
            for number, sharing in enumerate(self.sharings)
        ]
        return Family([*self.languages, language], sharings)

    @staticmethod
    def read(text):
        """The Family whose text this is."""
        items = items_of(text)
        languages = family_languages_from(items)
        return Family(languages, sharings_from(items, len(languages) + 1, languages))


def need_sharing_numbers(family, numbers):
    """The errors of what is no list of different numbers of sharings, perhaps none."""
    if not is_numbers(numbers):
        raise BadNumber("numbers")
    if not all([is_within(number, 0, len(family.sharings) - 1) for number in numbers]):
        raise BadNumber("numbers")
    need_once(numbers)


def need_family(value, part):
    """BadFamily for what is no family."""
    if not isinstance(value, Family):
        raise BadFamily(part)


def family_languages_from(items):
    """The list of the languages that stand ahead, ascending, up to `:`."""
    languages = []
    while item_at(items, len(languages)) != ":" or len(languages) == 0:
        item = items[len(languages)]
        if not is_name(item) or item <= max(languages, default="") or len(languages) == MOST_LANGUAGES:
            raise BadText(0, len(languages))
        languages.append(item)
    return languages


def sharing_from(items, at, languages, ahead):
    """The list of the languages of a sharing, unlike those ahead, that stands from an index on."""
    sharing = []
    while len(sharing) < 2 or sharing in ahead or at + len(sharing) < len(items):
        item = item_at(items, at + len(sharing))
        if item == "/" and len(sharing) >= 2 and sharing not in ahead:
            return sharing
        if item not in languages or item <= max(sharing, default=""):
            raise BadText(0, at + len(sharing))
        sharing.append(item)
    return sharing


def sharings_from(items, at, languages):
    """The list of the sharings that stand from an index on, up to the last item."""
    if item_at(items, at) == NO_SHARINGS:
        need_end(items, at + 1)
        return []
    sharings = [sharing_from(items, at, languages, [])]
    behind = at + len(sharings[0])
    while behind < len(items):
        if len(sharings) == MOST_SHARINGS:
            raise BadText(0, behind)
        sharing = sharing_from(items, behind + 1, languages, sharings)
        sharings.append(sharing)
        behind += 1 + len(sharing)
    return sharings


def shared(columns, languages, place, other):
    """The ascending tuple of the languages that have equal signs at two places."""
    rows = zip(languages, columns[place], columns[other])
    return tuple(sorted([language for language, sign, beside in rows if sign == beside]))


def sharings_of(sheet, width, dyeing):
    """The sharings of a mother as ascending triples of the languages and the least pair of places."""
    need_dyed_sheet(sheet, width, dyeing)
    need_mother(sheet, width, dyeing)
    columns = columns_of(sheet)
    surroundings = surroundings_of(sheet, dyeing)
    found = {}
    for place, other in pairs_of_places(len(columns)):
        if dyeing[place] != dyeing[other] and (width == 0 or surroundings[place] == surroundings[other]):
            languages = shared(columns, sheet.languages, place, other)
            if len(languages) >= 2:
                found.setdefault(languages, (languages, place, other))
    return tuple(sorted(list(found.values())))


def from_sheet(sheet, width, dyeing):
    """The Family of a sheet's languages with the sharings of a mother."""
    told = sharings_of(sheet, width, dyeing)
    return Family(sheet.languages, [languages for languages, _, _ in told])
