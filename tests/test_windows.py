import unittest

from foretongue.courses import Course
from foretongue.shifts import Shift
from foretongue.windows import inner
from tests.helper import ODD, chances, error_of, plain_outcome, plain_words, some_course


class Windows(unittest.TestCase):
    def test_inner(self):
        for many in range(5):
            for chance in chances(60 + many, 8):
                course = some_course(chance, "abc", many)
                for word in plain_words("abc", 6):
                    outcome = plain_outcome(course, word)
                    wanted = "".join(sign for at, sign in enumerate(outcome) if many <= at < len(word) - many)
                    self.assertEqual(inner(course, word), wanted)

    def test_it_stands_in_long_words(self):
        for many in range(4):
            for chance in chances(70 + many, 8):
                course = some_course(chance, "abc", many)
                for _ in range(30):
                    word = "".join(chance.choices("abc", k=chance.randrange(0, 13)))
                    ahead, behind = ["".join(chance.choices("abc", k=chance.randrange(0, 20))) for _ in range(2)]
                    begin, end = len(ahead) + many, len(ahead) + max(many, len(word) - many)
                    self.assertEqual(plain_outcome(course, ahead + word + behind)[begin:end], inner(course, word))

    def test_wrong(self):
        drop = Course([Shift("a", "b"), Shift("a", "")])
        for value in ODD:
            self.assertEqual(error_of(inner, value, value), ("BadCourse", ("course",)))
            wanted = ("BadCourse", ("falls",)) if value == "" else ("BadWord", ("word",))
            self.assertEqual(error_of(inner, drop, value), wanted)
        self.assertEqual(error_of(inner, drop, "a" * 12), ("BadCourse", ("falls",)))
        self.assertIsNone(error_of(inner, Course([Shift("a", "b")] * 6), "a" * 12))
