"""Shifts: one sound becomes another one, or falls, in told surroundings."""

from foretongue.checks import is_long_word, is_rising, is_sound
from foretongue.errors import BadShift, BadText
from foretongue.needs import need_sound, need_word
from foretongue.texts import item_at, items_of, need_end

# The items of an empty new sound, and of a side that is None, in the text of a shift.
DROPPED = "-"
ANYTHING = "*"
# What stands between the values of a shift in its text; the values have an empty string here.
MARKS = ("", ">", "", "/", "", "_", "")


def is_side(value):
    """Whether a value is a side that is not None: sounds, ascending, perhaps `#` ahead."""
    if not isinstance(value, str) or value == "":
        return False
    return is_long_word(value.removeprefix("#")) and is_rising(value)


def side_text(side):
    """The item of a side in the text of a shift."""
    return ANYTHING if side is None else side


def exchanged(signs, one, other):
    """A string of sounds and `#` with two sounds exchanged for one another."""
    return "".join([other if sign == one else one if sign == other else sign for sign in signs])


def side_exchanged(side, one, other):
    """A side with two sounds exchanged for one another: it ascends again."""
    if side is None:
        return None
    return "".join(sorted(exchanged(side, one, other)))


def changed_places(shift, line):
    """The indices in a line that a shift changes, ascending.

    A line is one word or several, with `#` ahead of each and behind the last one. So the
    neighbours of the first and of the last sound of a word stand in it, and many words are
    done as fast as one long one.
    """
    old = shift.old
    left = shift.left
    right = shift.right
    if old not in line:
        return []
    return [
        at
        for at, sign in enumerate(line)
        if sign == old
        and (left is None or line[at - 1] in left)
        and (right is None or line[at + 1] in right)
    ]


def shifted(shift, line):
    """What a shift makes of a line, all places of all its words at once."""
    if shift.left is None and shift.right is None:
        return line.replace(shift.old, shift.new)
    signs = list(line)
    for at in changed_places(shift, line):
        signs[at] = shift.new
    return "".join(signs)


def line_of(words):
    """The line of some words: shifts do it as they do each word."""
    return "#" + "#".join(words) + "#"


class Shift:
    """A shift of an old sound to a new one, or to the empty string, between two sides."""

    def __init__(self, old, new, left=None, right=None):
        if not is_sound(old):
            raise BadShift("old")
        if not (is_sound(new) or new == "") or new == old:
            raise BadShift("new")
        if left is not None and not is_side(left):
            raise BadShift("left")
        if right is not None and not is_side(right):
            raise BadShift("right")
        self.old = old
        self.new = new
        self.left = left
        self.right = right
        self.falls = new == ""
        sides = (left or "") + (right or "")
        self.sounds = "".join(sorted(set(old + new + sides.replace("#", ""))))

    def __eq__(self, other):
        if not isinstance(other, Shift):
            return False
        if self.old != other.old or self.new != other.new:
            return False
        return self.left == other.left and self.right == other.right

    def __str__(self):
        return f"{self.old} > {self.new or DROPPED} / {side_text(self.left)} _ {side_text(self.right)}"

    def changes(self, word):
        """The tuple of the places of a word that the shift changes, ascending."""
        need_word(word, "word")
        return tuple([at - 1 for at in changed_places(self, line_of([word]))])

    def done(self, word):
        """What the shift makes of a word."""
        need_word(word, "word")
        return shifted(self, line_of([word]))[1:-1]

    def renamed(self, one, other):
        """The shift with two sounds exchanged for one another wherever they stand."""
        need_sound(one, "one")
        need_sound(other, "other")
        return Shift(
            exchanged(self.old, one, other),
            exchanged(self.new, one, other),
            side_exchanged(self.left, one, other),
            side_exchanged(self.right, one, other),
        )

    @staticmethod
    def read(text):
        """The shift whose text this is."""
        items = items_of(text)
        shift = shift_from(items, 0)
        need_end(items, len(MARKS))
        return shift


def can_stand(items, at, step):
    """Whether the item at an index can be the one of this number in the text of a shift."""
    item = item_at(items, at)
    if step == 0:
        return is_sound(item)
    if step == 2:
        return item == DROPPED or (is_sound(item) and item != items[at - 2])
    if step == 4 or step == 6:
        return item == ANYTHING or is_side(item)
    return item == MARKS[step]


def shift_from(items, at):
    """The shift whose text stands among some items from an index on."""
    for step in range(len(MARKS)):
        if not can_stand(items, at + step, step):
            raise BadText(0, at + step)
    new = items[at + 2]
    left = items[at + 4]
    right = items[at + 6]
    return Shift(
        items[at],
        "" if new == DROPPED else new,
        None if left == ANYTHING else left,
        None if right == ANYTHING else right,
    )
