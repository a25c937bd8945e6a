"""The words of a stock, ordered by their length, then as strings, and their numbers."""

from foretongue.checks import of_stock
from foretongue.errors import Misfit, TooMany
from foretongue.needs import need_number, need_stock, need_word

LONGEST = 12
MOST_OF_ONE_LENGTH = 20000


def longer_words(words, stock):
    """All words with one sound of the stock behind one of these words, in the same order."""
    return [word + sound for word in words for sound in stock]


def many_of_length(stock, length):
    """How many words of the stock have just so many sounds."""
    many = 1
    for _ in range(length):
        many *= len(stock)
    return many


def many_words(stock, most):
    """How many words of the stock have at most so many sounds."""
    return sum([many_of_length(stock, length) for length in range(most + 1)])


def list_words(stock, most):
    """The list of all words of the stock of at most so many sounds, ascending."""
    words = [""]
    found = [""]
    for _ in range(most):
        words = longer_words(words, stock)
        found.extend(words)
    return found


def words_of(stock, most):
    """The tuple of all words of the stock of at most so many sounds, ascending."""
    need_stock(stock, "stock")
    need_number(most, "most", 0, LONGEST)
    if many_of_length(stock, most) > MOST_OF_ONE_LENGTH:
        raise TooMany("words", MOST_OF_ONE_LENGTH)
    return tuple(list_words(stock, most))


def need_word_of(word, stock):
    """The errors of a word and a stock that must fit together."""
    need_word(word, "word")
    need_stock(stock, "stock")
    if not of_stock(word, stock):
        raise Misfit("stock")


def number_of_word(word, stock):
    """The number of a word of the stock.

    Each sound counts from 1, so that no word but the empty one has the number 0.
    """
    number = 0
    for sound in word:
        number = number * len(stock) + stock.index(sound) + 1
    return number


def word_of_number(number, stock):
    """The word of the stock with this number."""
    word = ""
    left = number
    while left > 0:
        left -= 1
        word = stock[left % len(stock)] + word
        left //= len(stock)
    return word


def last_number(stock):
    """The number of the last word of the stock."""
    return number_of_word(stock[-1] * LONGEST, stock)


def word_number(word, stock):
    """The number of a word among the words of the stock."""
    need_word_of(word, stock)
    return number_of_word(word, stock)


def word_at(stock, number):
    """The word of the stock with a number."""
    need_stock(stock, "stock")
    need_number(number, "number", 0, last_number(stock))
    return word_of_number(number, stock)


def next_word(word, stock):
    """The word behind a word of the stock, None behind the last one."""
    need_word_of(word, stock)
    number = number_of_word(word, stock)
    if number == last_number(stock):
        return None
    return word_of_number(number + 1, stock)
