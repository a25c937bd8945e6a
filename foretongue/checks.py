"""Whether values are what the document calls integers, names, sounds, words and stocks."""


def is_integer(value):
    """Whether a value is an integer; True and False are none."""
    return isinstance(value, int) and not isinstance(value, bool)


def is_within(value, least, most):
    """Whether a value is an integer from least to most, None for no bound."""
    if not is_integer(value):
        return False
    return (least is None or least <= value) and (most is None or value <= most)


def is_list(value):
    """Whether a value is a list or a tuple, which may be passed for one another."""
    return isinstance(value, (list, tuple))


def is_long_word(value):
    """Whether a value is a string of sounds, however many, perhaps none."""
    if not isinstance(value, str):
        return False
    return value == "" or (value.isascii() and value.isalpha() and value.islower())


def is_rising(signs):
    """Whether the signs of a string ascend, each standing once."""
    return all([one < other for one, other in zip(signs, signs[1:])])


def is_name(value):
    """Whether a value is a name: 1 to 12 small letters and digits, a letter ahead."""
    if not isinstance(value, str) or not 1 <= len(value) <= 12:
        return False
    return value.isascii() and value.isalnum() and value[0].isalpha() and value == value.lower()


def is_sound(value):
    """Whether a value is one small letter."""
    return is_long_word(value) and len(value) == 1


def is_word(value):
    """Whether a value is a string of at most 12 sounds."""
    return is_long_word(value) and len(value) <= 12


def is_stock(value):
    """Whether a value is a string of 1 to 5 sounds, ascending, each once."""
    return is_long_word(value) and 1 <= len(value) <= 5 and is_rising(value)


def is_numbers(value):
    """Whether a value is a list or a tuple of integers."""
    return is_list(value) and all([is_integer(item) for item in value])


def first_twice(values):
    """The first of some integers or strings that equals one ahead of it, None without any."""
    seen = set()
    for value in values:
        if value in seen:
            return value
        seen.add(value)
    return None


def of_stock(word, stock):
    """Whether a word, however long, has sounds of a stock alone; False for what is none."""
    return is_long_word(word) and isinstance(stock, str) and all([sound in stock for sound in word])
