"""What the tests share: plain readings of the document that use nothing of the package but its values."""

from itertools import product
from random import Random

from foretongue import errors
from foretongue.courses import Course
from foretongue.papers import Denial, Paper
from foretongue.shifts import Shift


class Odd:
    """A value of a class that the package does not know."""


ODD = [True, False, None, 0, -1, 7, 10 ** 70, 1.5, "", "-", "#", "A", "a1", "ab ", "\u00e4", "a" * 13, b"a", [], (), [None],
       ["a"], ("a", "b"), [True], [[]], {}, {"a": 1}, {1}, Odd(), Odd, ValueError("a")]


def error_of(call, *values, **named):
    """The pair of the class name and the fields of the error that a call raises, None without one."""
    try:
        call(*values, **named)
    except errors.TongueError as error:
        return type(error).__name__, tuple(vars(error).values())
    return None


def signs_match(word, place, shift):
    ahead = word[place - 1] if place > 0 else "#"
    behind = word[place + 1] if place + 1 < len(word) else "#"
    if word[place] != shift.old:
        return False
    return (shift.left is None or ahead in shift.left) and (shift.right is None or behind in shift.right)


def plain_changes(shift, word):
    return tuple(place for place in range(len(word)) if signs_match(word, place, shift))


def plain_done(shift, word):
    return "".join(shift.new if signs_match(word, place, shift) else word[place] for place in range(len(word)))


def plain_outcome(course, word):
    for shift in course.shifts:
        word = plain_done(shift, word)
    return word


def plain_words(stock, most, least=0):
    return ["".join(signs) for length in range(least, most + 1) for signs in product(stock, repeat=length)]


def some_side(chance, letters):
    signs = [sign for sign in "#" + letters if chance.random() < 0.5]
    return "".join(signs) or None if chance.random() < 0.7 else None


def some_shift(chance, letters, falls=False):
    old = chance.choice(letters)
    new = chance.choice([letter for letter in letters if letter != old] + [""] * falls)
    return Shift(old, new, some_side(chance, letters), some_side(chance, letters))


def some_course(chance, letters, many, falls=False):
    return Course([some_shift(chance, letters, falls) for _ in range(many)])


def chances(seed, many):
    return [Random(seed * 1000 + number) for number in range(many)]


def bent_items(items, others):
    """The lists of items that are bent at one of them: left out, put in, exchanged, another one, cut off."""
    for at in range(len(items) + 1):
        yield items[:at]
        for other in others:
            yield items[:at] + [other] + items[at:]
            yield items[:at] + [other] + items[at + 1:]
        if at < len(items):
            yield items[:at] + items[at + 1:]
        if at + 1 < len(items):
            yield items[:at] + [items[at + 1], items[at]] + items[at + 2:]


def wanted_index(items, can_begin, is_whole):
    """The index that BadText tells of some items; None if they are a whole text."""
    for at in range(len(items)):
        if not can_begin(items[:at + 1]):
            return at
    return None if is_whole(items) else len(items)


def bent_parts(parts):
    """The tuples of parts that are bent at one place, all the way in."""
    for at, part in enumerate(parts):
        ahead, behind = tuple(parts[:at]), tuple(parts[at + 1:])
        yield ahead + behind
        yield ahead + (part,) + (part,) + behind
        for other in ODD:
            yield ahead + (other,) + behind
        if isinstance(part, int) and not isinstance(part, bool):
            yield ahead + (part + 1,) + behind
            yield ahead + (float(part),) + behind
            if part in (0, 1):
                yield ahead + (bool(part),) + behind
        if isinstance(part, str):
            yield ahead + (part + "a",) + behind
            yield ahead + (part[:-1],) + behind
            yield ahead + (part[::-1],) + behind
            yield ahead + (list(part),) + behind
        if isinstance(part, tuple):
            for bent in bent_parts(part):
                yield ahead + (bent,) + behind
        if at + 1 < len(parts):
            yield tuple(parts[:at]) + (parts[at + 1], part) + tuple(parts[at + 2:])


def strangers(made, *parts):
    """Values that look like a paper, but are not made by calling its class."""
    below = type("Below" + made.__name__, (made,), {})
    stranger = type(made.__name__, (), {})()
    vars(stranger).update(vars(made(*parts)))
    kind = made.__name__.lower()
    return [below(*parts), stranger, Paper(kind, *parts), Denial(kind, *parts), made, parts, list(parts), kind]


def lists_for_tuples(value):
    """A value with each tuple in it as a list."""
    if isinstance(value, (list, tuple)):
        return [lists_for_tuples(item) for item in value]
    return value
