import unittest

from foretongue.mothers import coarsest_mothers, many_mothers, mother_at, mothers
from foretongue.sheets import Sheet
from foretongue.zero import zero
from tests.helper import ODD, chances, error_of
from tests.plain_mothers import NINE, all_dyeings, check_errors, plain_mothers, size, some_whole_sheet


def joins_of(dyeing):
    """All dyeings that come of joining two sounds."""
    for sound in range(size(dyeing)):
        for other in range(sound):
            made = [other if number == sound else number for number in dyeing]
            yield tuple(list(dict.fromkeys(made)).index(number) for number in made)


class Mothers(unittest.TestCase):
    def test_trial_of_all_dyeings(self):
        for chance in chances(1700, 40):
            sheet = some_whole_sheet(chance, 6)
            for width in (0, 1):
                every = plain_mothers(sheet, width)
                for most in range(1, 9):
                    wanted = [dyeing for dyeing in every if size(dyeing) <= most]
                    self.assertEqual(mothers(sheet, width, most), tuple(wanted))
                    self.assertEqual(many_mothers(sheet, width, most), len(wanted))
                    for number in {0, len(wanted) // 2, len(wanted) - 1} & set(range(len(wanted))):
                        self.assertEqual(mother_at(sheet, width, most, number), wanted[number])
                    for number in (len(wanted), -1, 10 ** 70, 4139, 4140):
                        self.assertEqual(error_of(mother_at, sheet, width, most, number), ("BadNumber", ("number",)))

    def test_coarsest(self):
        many = set()
        for chance in chances(1710, 80):
            sheet = some_whole_sheet(chance, 6)
            self.assertEqual(coarsest_mothers(sheet, 0), (zero(sheet),))
            for width in (0, 1):
                every = plain_mothers(sheet, width)
                wanted = [dyeing for dyeing in every if not any(made in every for made in joins_of(dyeing))]
                many.add(len(wanted))
                self.assertEqual(coarsest_mothers(sheet, width), tuple(wanted))
        self.assertGreater(len(many), 2)

    def test_some_of_each_size(self):
        for chance in chances(1720, 20):
            sheet = some_whole_sheet(chance, 6)
            sizes = {size(dyeing) for dyeing in mothers(sheet, 1, 8)}
            self.assertEqual(sizes, set(range(min(sizes), len(sheet.places) + 1)))

    def test_eight_places(self):
        sheet = Sheet(["x"], [["aaaaaaaa"]])
        self.assertEqual(many_mothers(sheet, 1, 8), 4140)
        self.assertEqual(mother_at(sheet, 1, 8, 4139), tuple(range(8)))
        self.assertEqual(mother_at(sheet, 0, 2, 127), (0, 1, 1, 1, 1, 1, 1, 1))
        self.assertEqual(error_of(mother_at, sheet, 0, 2, 128), ("BadNumber", ("number",)))
        self.assertEqual(coarsest_mothers(sheet, 1), ((0,) * 8,))
        self.assertEqual(mothers(sheet, 1, 2), tuple(dyeing for dyeing in all_dyeings(8) if size(dyeing) <= 2))

    def test_too_many_mothers(self):
        sheet = Sheet(["x"], [["aaaaaaaa"]])
        self.assertEqual(error_of(mothers, sheet, 0, 3), ("TooMany", ("mothers", 400)))
        found = 0
        for chance in chances(1730, 200):
            sheet = some_whole_sheet(chance, 8, letters="as", languages=2)
            for most in range(1, 9):
                many = many_mothers(sheet, 1, most)
                found += 330 < many <= 400
                wanted = None if many <= 400 else ("TooMany", ("mothers", 400))
                self.assertEqual(error_of(mothers, sheet, 1, most), wanted)
        self.assertGreater(found, 0)

    def test_just_400_mothers(self):
        sheet = Sheet.read("x y z w : badca adabc adaad aaabc / daa cdd cad abc")
        self.assertEqual((many_mothers(sheet, 1, 6), len(mothers(sheet, 1, 6))), (400, 400))
        self.assertEqual(mothers(sheet, 1, 6), tuple(plain_mothers(sheet, 1, 6)))
        self.assertEqual(error_of(mothers, sheet, 1, 7), ("TooMany", ("mothers", 400)))

    def test_exchanged_sounds_and_languages(self):
        for chance in chances(1740, 15):
            sheet = some_whole_sheet(chance, 6, languages=3)
            table = str.maketrans("as", "sa")
            changed = Sheet(sheet.languages, [[cells[0].translate(table), *cells[1:]] for cells in sheet.rows])
            self.assertEqual(mothers(changed, 1, 8), mothers(sheet, 1, 8))
            turned = sheet.of_languages(sheet.languages[::-1])
            self.assertEqual(mothers(turned, 1, 8), mothers(sheet, 1, 8))

    def test_wrong(self):
        for call in (mothers, many_mothers, mother_at, coarsest_mothers):
            more = {coarsest_mothers: 0, mother_at: 2}.get(call, 1)
            check_errors(self, call, more > 0, max(0, more - 1))
            self.assertEqual(error_of(call, NINE, 1, *[1] * more), ("TooMany", ("places", 8)))
        for value in ODD:
            if type(value) is not int or value < 0 or value > 7:
                self.assertEqual(error_of(mother_at, NINE, 1, 8, value), ("TooMany", ("places", 8)))
                self.assertEqual(error_of(mother_at, Sheet(["x"], [["aaaa"]]), 1, 8, value), ("BadNumber", ("number",)))
