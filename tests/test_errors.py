import unittest

from foretongue import errors

PARTS = ["BadWord", "BadStock", "BadShift", "BadCourse", "BadSheet", "BadDyeing", "BadSaying", "BadPairs", "BadFamily",
         "BadNumber", "BadPaper", "BadDesk", "Misfit"]
MISSING = ["NoRow", "NoLanguage", "NoPlace", "NoShift", "NoName"]
FIELDS = {name: ["part"] for name in PARTS}
FIELDS.update({name: ["value"] for name in ["Missing", "Twice"] + MISSING})
FIELDS.update({"Impossible": ["paper"], "TooMany": ["what", "most"], "Nothing": [], "BadText": ["line", "item"],
               "BadLine": ["line", "error"]})


class Errors(unittest.TestCase):
    def test_all_are_there(self):
        found = [name for name, value in vars(errors).items() if isinstance(value, type)]
        self.assertEqual(sorted(found), sorted([*FIELDS, "TongueError"]))

    def test_what_stands_below_what(self):
        self.assertEqual(errors.TongueError.__bases__, (ValueError,))
        for name in FIELDS:
            base = errors.Missing if name in MISSING else errors.TongueError
            self.assertEqual(getattr(errors, name).__bases__, (base,), name)

    def test_fields_by_place_and_by_name(self):
        values = [None, True, [1, [2]], "a b", 10 ** 5000, {"a": 1}, ValueError("x")]
        for name, fields in FIELDS.items():
            made = getattr(errors, name)
            for value in values:
                told = [value, "other"][:len(fields)]
                by_place = made(*told)
                by_name = made(**dict(zip(fields, told)))
                for error in (by_place, by_name):
                    self.assertEqual(list(vars(error)), fields)
                    for field, part in zip(fields, told):
                        self.assertIs(getattr(error, field), part)

    def test_each_can_be_raised_and_caught_as_the_base(self):
        for name, fields in FIELDS.items():
            with self.assertRaises(errors.TongueError):
                raise getattr(errors, name)(*range(len(fields)))


if __name__ == "__main__":
    unittest.main()
