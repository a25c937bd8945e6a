"""Asks at a desk: what a line is answered, by what is kept on a shelf."""

from foretongue.alike import same_on_all
from foretongue.answers import answer
from foretongue.desk_lines import COURSE, SHEET, ask_from
from foretongue.dyeings import many_sounds
from foretongue.fallen import fallen
from foretongue.gaps import cells_told, need_told_gap
from foretongue.refusing import least_size, mother_of
from foretongue.sayings import AlikeRows, Same
from foretongue.shelves import course_named, need_shelf, sheet_named
from foretongue.sheets import Sheet, need_place
from foretongue.strangers import fewest_strangers

NONE = "-"


def joined_items(values):
    """The text of some strings or integers, `-` without any."""
    if len(values) == 0:
        return NONE
    return " ".join([str(value) for value in values])


def names_told(shelf, told):
    """The names of the things, in their order."""
    return joined_items(shelf.names)


def shown(shelf, told):
    """The kind and the text of a thing."""
    thing = shelf.thing(told[0])
    kind = SHEET if isinstance(thing, Sheet) else COURSE
    return f"{kind} {thing}"


def width_told(shelf, told):
    """The width."""
    return str(shelf.width)


def most_told(shelf, told):
    """The greatest size."""
    return str(shelf.most)


def size_told(shelf, told):
    """How many sounds a mother of a sheet has at least."""
    return str(many_sounds(least_size(sheet_named(shelf, told[0]), shelf.width).dyeing))


def mother_told(shelf, told):
    """The dyeing that mother_of tells of a sheet, `-` if there is none."""
    paper = mother_of(sheet_named(shelf, told[0]), shelf.width, shelf.most)
    return joined_items(paper.dyeing) if paper else NONE


def same_told(shelf, told):
    """Whether two places of a sheet are one sound: sure, never or open."""
    sheet = sheet_named(shelf, told[0])
    need_place(sheet, told[1])
    need_place(sheet, told[2])
    saying = Same(sheet.places[told[1]], sheet.places[told[2]])
    return answer(sheet, shelf.width, shelf.most, saying).kind


def alike_told(shelf, told):
    """Whether two rows of a sheet are one word: sure, never or open."""
    sheet = sheet_named(shelf, told[0])
    saying = AlikeRows(told[1], told[2])
    return answer(sheet, shelf.width, shelf.most, saying).kind


def strangers_told(shelf, told):
    """The rows of a sheet that are struck as strangers."""
    return joined_items(fewest_strangers(sheet_named(shelf, told[0]), shelf.width, shelf.most).rows)


def stand_told(shelf, told):
    """The loose cells that can stand in a gap of a sheet."""
    name, row, language = told
    sheet = sheet_named(shelf, name)
    need_told_gap(sheet, shelf.width, shelf.most, row, language)
    return joined_items(cells_told(sheet, shelf.width, shelf.most, row, language))


def done_told(shelf, told):
    """The outcome of a word by a course."""
    return course_named(shelf, told[0]).done(told[1])


def parts_told(shelf, told):
    """The least word that parts two courses, `-` if none does."""
    name, other, stock = told
    # Both names are asked for ahead of what stands under them.
    shelf.thing(name)
    shelf.thing(other)
    paper = same_on_all(course_named(shelf, name), course_named(shelf, other), stock)
    return NONE if paper else paper.word


def fallen_told(shelf, told):
    """The least two words that fall together by a course, `-` if it leads back."""
    paper = fallen(course_named(shelf, told[0]), told[1])
    return NONE if paper else joined_items([paper.one, paper.other])


ANSWERS = {
    "names": names_told,
    "show": shown,
    "width": width_told,
    "most": most_told,
    "size": size_told,
    "mother": mother_told,
    "same": same_told,
    "alike": alike_told,
    "strangers": strangers_told,
    "stand": stand_told,
    "done": done_told,
    "parts": parts_told,
    "fallen": fallen_told,
}


def answer_of(shelf, line):
    """The answer to an ask line."""
    need_shelf(shelf, "shelf")
    word, *told = ask_from(line)
    action = ANSWERS[word]
    return action(shelf, told)
