"""What stands inside of a word stays, wherever the word stands in a long one."""

from foretongue.courses import long_outcome, need_course, need_no_fall
from foretongue.needs import need_word


def inner(course, word):
    """The outcome of a word without as many sounds at its begin and its end as there are shifts."""
    need_course(course, "course")
    need_word(word, "word")
    need_no_fall([course])
    reach = len(course)
    return long_outcome(course, word)[reach:max(reach, len(word) - reach)]
