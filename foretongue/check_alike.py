"""Which values are right papers of what is alike on all words."""

from foretongue.alike import AllAlike, Parted, are_alike, need_bounds, widest
from foretongue.checks import is_integer, is_list, is_numbers, is_word, of_stock
from foretongue.courses import long_outcome, need_course
from foretongue.idle import Core, FirstOrder, all_lots, all_orders, course_of, need_all_words
from foretongue.needs import need_stock
from foretongue.papers import is_called


def is_word_of(value, stock):
    """Whether a value is a word of the stock."""
    return is_word(value) and of_stock(value, stock)


def parts_courses(one, other, stock, word):
    """Whether a value is a word of the stock that parts two courses."""
    return is_word_of(word, stock) and long_outcome(one, word) != long_outcome(other, word)


def is_parted(one, other, stock, value):
    """Whether a Parted has a word of the stock that parts the courses, and its outcomes."""
    if not parts_courses(one, other, stock, value.word):
        return False
    outcomes = (long_outcome(one, value.word), long_outcome(other, value.word))
    return outcomes == (value.first, value.second)


def shows_alike(one, other, stock, value):
    """Whether a value is a right AllAlike, or a Parted of any word of the stock."""
    need_course(one, "one")
    need_course(other, "other")
    need_stock(stock, "stock")
    need_bounds(one, other, stock)
    if isinstance(value, AllAlike) and is_called(value, "AllAlike"):
        if not is_integer(value.most) or value.most != widest(one, other):
            return False
        return are_alike(one, other, stock)
    if isinstance(value, Parted) and is_called(value, "Parted"):
        return is_parted(one, other, stock, value)
    return False


def is_first(rows, course, stock, value):
    """Whether a paper has one of some rows that is alike, and words that part all those ahead of it."""
    if not is_numbers(value.numbers) or value.numbers not in rows:
        return False
    ahead = rows[:rows.index(value.numbers)]
    if not is_list(value.words) or len(value.words) != len(ahead):
        return False
    pairs = zip(ahead, value.words)
    if not all([parts_courses(course_of(course, row), course, stock, word) for row, word in pairs]):
        return False
    return are_alike(course_of(course, value.numbers), course, stock)


def shows_core(course, stock, value):
    """Whether a value is a Core with the numbers that are right, and any words that part."""
    need_all_words(course, stock)
    if not isinstance(value, Core) or not is_called(value, "Core"):
        return False
    return is_first(all_lots(course), course, stock, value)


def shows_first(course, stock, value):
    """Whether a value is a FirstOrder with the numbers that are right, and any words that part."""
    need_all_words(course, stock)
    if not isinstance(value, FirstOrder) or not is_called(value, "FirstOrder"):
        return False
    return is_first(all_orders(course), course, stock, value)
