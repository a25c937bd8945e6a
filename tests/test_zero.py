import unittest
from itertools import combinations

from foretongue.check_zero import shows_telling, shows_zero
from foretongue.sheets import Sheet
from foretongue.zero import Telling, ZeroMother, compared, fewest_languages, sheet_from, zero, zero_mother
from tests.helper import ODD, bent_parts, chances, error_of, lists_for_tuples, strangers
from tests.plain_mothers import GAPS, column, plain_mothers, size, some_whole_sheet, tuples

SHEET = Sheet(["one", "two"], [["sa", "sa"], ["si", "zi"]])


def plain_zero(sheet):
    columns, numbers = [], []
    for place in range(len(sheet.places)):
        if column(sheet, place) not in columns:
            columns.append(column(sheet, place))
        numbers.append(columns.index(column(sheet, place)))
    return tuple(numbers), tuple(columns)


def sets_in_order(sheet):
    many = len(sheet.languages)
    return [lot for size_ in range(many + 1) for lot in combinations(range(many), size_)]


def missed(sheet, lot):
    """The pairs of unlike places that none of these languages parts."""
    columns = [column(sheet, place) for place in range(len(sheet.places))]
    return [(place, other) for place in range(len(columns)) for other in range(place + 1, len(columns))
            if columns[place] != columns[other] and all(columns[place][at] == columns[other][at] for at in lot)]


def plain_telling(sheet):
    pairs = []
    for lot in sets_in_order(sheet):
        if not missed(sheet, lot):
            return tuple(sheet.languages[at] for at in lot), tuple(pairs)
        pairs.append(missed(sheet, lot)[0])
    return None


class Zero(unittest.TestCase):
    def test_against_all_pairs(self):
        for chance in chances(1100, 60):
            sheet = some_whole_sheet(chance, 12, languages=4)
            dyeing, columns = plain_zero(sheet)
            self.assertEqual(zero(sheet), dyeing)
            self.assertEqual(zero_mother(sheet), ZeroMother(dyeing, columns))
            self.assertEqual(zero_mother(sheet).parts, (dyeing, columns))
            self.assertEqual(sheet_from(sheet.languages, numbers_of_rows(sheet, dyeing), columns), sheet)

    def test_rows_like_the_one_ahead(self):
        sheet = Sheet(["x", "y"], [["ab", "ab"], ["ab", "ab"], ["ba", "ba"]])
        self.assertEqual(zero(sheet), (0, 1, 0, 1, 1, 0))
        self.assertEqual(zero(Sheet(["x"], [["---"]])), (0, 0, 0))

    def test_languages_that_say_the_same(self):
        for chance in chances(1110, 20):
            sheet = some_whole_sheet(chance, 8, languages=3)
            again = Sheet(["again"], [[cells[0].translate(str.maketrans("asz-", "-kac"))] for cells in sheet.rows])
            self.assertEqual(zero(sheet.joined(again)), zero(sheet))

    def test_further_sheets(self):
        for chance in chances(1120, 40):
            sheet = some_whole_sheet(chance, 6, languages=2)
            turned = sheet.of_rows(range_turned(sheet))
            self.assertEqual(size(zero(turned)), size(zero(sheet)))
            row = ["".join(chance.choices("as-", k=2)) for _ in sheet.languages]
            if len(sheet.rows) < 6:
                self.assertEqual(zero(sheet.with_row(row))[:len(sheet.places)], zero(sheet))
            other = Sheet(["p", "q"], [["".join(chance.choices("as-", k=len(cells[0]))) for _ in "pq"]
                                       for cells in sheet.rows])
            told = list(zip(zero(sheet), zero(other)))
            self.assertEqual(zero(sheet.joined(other)), tuple(list(dict.fromkeys(told)).index(pair) for pair in told))

    def test_wrong(self):
        for call in (zero, zero_mother, fewest_languages):
            for value in ODD + [str(SHEET)]:
                self.assertEqual(error_of(call, value), ("BadSheet", ("sheet",)))
            self.assertEqual(error_of(call, GAPS), ("BadSheet", ("gaps",)))


def range_turned(sheet):
    return list(range(len(sheet.rows)))[::-1]


def numbers_of_rows(sheet, dyeing):
    return [[dyeing[place] for place in sheet.places_of(row)] for row in range(len(sheet.rows))]


class Languages(unittest.TestCase):
    def test_first_set(self):
        sizes = set()
        for chance in chances(1200, 120):
            sheet = some_whole_sheet(chance, 8, letters="as-", languages=4)
            languages, pairs = plain_telling(sheet)
            sizes.add(len(languages))
            self.assertEqual(fewest_languages(sheet).parts, (languages, pairs))
            self.assertIs(shows_telling(sheet, fewest_languages(sheet)), True)
        self.assertLessEqual({0, 1, 2}, sizes)

    def test_no_language_is_needed(self):
        sheet = Sheet(["x", "y"], [["aa", "bb"], ["a", "b"]])
        self.assertEqual(fewest_languages(sheet), Telling((), ()))
        self.assertIs(shows_telling(sheet, Telling([], [])), True)

    def test_all_are_needed(self):
        sheet = Sheet(["x", "y", "z"], [["abaa", "aaba", "aaab"]])
        wanted = Telling(("x", "y", "z"), [(0, 1), (0, 2), (0, 1), (0, 1), (0, 3), (0, 2), (0, 1)])
        self.assertEqual(fewest_languages(sheet), wanted)


class Words(unittest.TestCase):
    def test_told_down(self):
        columns = [("a", "b"), ["a", "b"], ("-", "-"), ("s", "z")]
        sheet = sheet_from(["x", "y"], [[0, 3], (1, 2, 1)], columns)
        self.assertEqual(str(sheet), "x y : as bz / a-a b-b")
        self.assertEqual(zero(sheet), (0, 1, 0, 2, 0))
        for chance in chances(1300, 30):
            columns = [tuple(chance.choices("ab-", k=2)) for _ in range(4)]
            words = [[chance.randrange(4) for _ in range(chance.randrange(1, 4))] for _ in range(chance.randrange(1, 4))]
            sheet = sheet_from(["x", "y"], words, columns)
            wanted = [["".join(columns[sound][at] for sound in word) for at in range(2)] for word in words]
            self.assertEqual(sheet, Sheet(["x", "y"], wanted))
            standing = {columns[sound] for word in words for sound in word}
            self.assertEqual(size(zero(sheet)), len(standing))

    def test_wrong(self):
        for value in ODD + ["ab", ["A"], [["a"]]]:
            if value not in (["a"], ("a", "b")):
                self.assertEqual(error_of(sheet_from, value, value, value), ("BadSheet", ("languages",)))
        self.assertEqual(error_of(sheet_from, ["a", "b", "b", "a"], None, None), ("Twice", ("b",)))
        for value in ODD + ["ab", [[]], [[0], []], [[-1]], [[0, True]], [[0.0]], [0], [["a"]], [[0], None], [[[0]]]]:
            self.assertEqual(error_of(sheet_from, ["a"], value, value), ("BadSheet", ("words",)), value)
        for value in ODD + ["ab", [["a", "b"]], [["ab"]], [[""]], [["A"]], [["a"], []], [[None]], [[1]], [["a"], "a"], ["a"],
                            [["."]], [["#"]]]:
            if value not in ([], ()):
                self.assertEqual(error_of(sheet_from, ["a"], [[9]], value), ("BadSheet", ("columns",)), value)
        self.assertEqual(error_of(sheet_from, ["a"], [[0]], []), ("Misfit", ("columns",)))
        self.assertEqual(error_of(sheet_from, ["a"], [[0], [2]], [["a"], ["b"]]), ("Misfit", ("columns",)))
        self.assertEqual(error_of(sheet_from, ["a"], [[0, 2, 1]], [["a"], ["b"]]), ("Misfit", ("columns",)))
        for value in [[[0, -1]], [[0], [-1, 0]]]:
            self.assertEqual(error_of(sheet_from, ["a"], value, None), ("BadSheet", ("words",)))
        for value in [[["a", "ab"]], [["a", None]], [["a", "b"], ["", "a"]]]:
            self.assertEqual(error_of(sheet_from, ["a", "b"], [[0]], value), ("BadSheet", ("columns",)))
        five = list("abcde")
        self.assertEqual(error_of(sheet_from, five, [[0]], [five[:4]]), ("BadSheet", ("columns",)))
        self.assertEqual(error_of(sheet_from, five, [[1]], [five]), ("Misfit", ("columns",)))
        self.assertEqual(error_of(sheet_from, five, [[0] * 3] * 7, [five]), ("TooMany", ("languages", 4)))
        self.assertEqual(error_of(sheet_from, ["a"], [[0] * 3] * 7, [["a"]]), ("TooMany", ("rows", 6)))
        self.assertEqual(error_of(sheet_from, ["a"], [[0] * 13], [["a"]]), ("TooMany", ("places", 12)))
        self.assertIsNone(error_of(sheet_from, ["a"], [[0] * 2] * 6, [["a"], ["a"]]))

    def test_what_is_passed_stays(self):
        words, columns = [[0]], [["a"]]
        sheet = sheet_from(["x"], words, columns)
        words[0].append(0)
        columns[0][0] = "b"
        self.assertEqual(str(sheet), "x : a")


class Compared(unittest.TestCase):
    def test_all_pairs(self):
        words = set()
        for chance in chances(1400, 120):
            sheet = some_whole_sheet(chance, 6, languages=2)
            other = Sheet(["p"], [["".join(chance.choices("as", k=len(cells[0])))] for cells in sheet.rows])
            if chance.random() < 0.2:
                other = sheet.of_languages([sheet.languages[0]])
            many = range(len(sheet.places))
            pairs = [(place, beside) for place in many for beside in many if place < beside]
            mine = [pair for pair in pairs if len({zero(sheet)[at] for at in pair}) == 1]
            its = [pair for pair in pairs if len({zero(other)[at] for at in pair}) == 1]
            one = next((pair for pair in its if pair not in mine), None)
            beside = next((pair for pair in mine if pair not in its), None)
            word = {(False, False): "alike", (True, False): "finer", (False, True): "coarser",
                    (True, True): "across"}[one is not None, beside is not None]
            words.add(word)
            self.assertEqual(compared(sheet, other), (word, one, beside))
        self.assertEqual(words, {"alike", "finer", "coarser", "across"})

    def test_wrong(self):
        for value in ODD:
            self.assertEqual(error_of(compared, value, value), ("BadSheet", ("sheet",)))
            self.assertEqual(error_of(compared, GAPS, value), ("BadSheet", ("gaps",)))
            self.assertEqual(error_of(compared, SHEET, value), ("BadSheet", ("other",)))
        self.assertEqual(error_of(compared, SHEET, GAPS), ("BadSheet", ("gaps",)))
        for rows in [[["ab"]], [["ab"], ["abc"]], [["abcd"]], [["a"], ["bcd"]], [["ab"], ["ab"], ["a"]]]:
            self.assertEqual(error_of(compared, SHEET, Sheet(["x"], rows)), ("Misfit", ("places",)))
        self.assertIsNone(error_of(compared, SHEET, SHEET))


class CheckZero(unittest.TestCase):
    def test_bent_zero_mothers(self):
        for chance in chances(1500, 12):
            sheet = some_whole_sheet(chance, 5, languages=2)
            dyeing, columns = plain_zero(sheet)
            self.assertIs(shows_zero(sheet, ZeroMother(dyeing, columns)), True)
            self.assertIs(shows_zero(sheet, ZeroMother(*lists_for_tuples((dyeing, columns)))), True)
            for bent in bent_parts((dyeing, columns)):
                if len(bent) == 2:
                    wanted = [repr(part) for part in tuples(bent)] == [repr(dyeing), repr(columns)]
                    self.assertIs(shows_zero(sheet, ZeroMother(*bent)), wanted, bent)

    def test_other_mothers_are_none(self):
        sheet = Sheet(["one", "two"], [["sa", "sa"], ["si", "zi"], ["sa", "sa"]])
        right = zero_mother(sheet)
        for dyeing in plain_mothers(sheet, 1):
            self.assertIs(shows_zero(sheet, ZeroMother(dyeing, right.columns)), dyeing == right.dyeing)

    def test_bent_tellings(self):
        for chance in chances(1510, 25):
            sheet = some_whole_sheet(chance, 5, letters="as-", languages=3)
            sets = sets_in_order(sheet)
            for at, lot in enumerate(sets):
                if not any(missed(sheet, ahead) == [] for ahead in sets[:at]):
                    languages = tuple(sheet.languages[index] for index in lot)
                    pairs = tuple(chance.choice(missed(sheet, ahead)) for ahead in sets[:at])
                    self.assertIs(shows_telling(sheet, Telling(languages, lists_for_tuples(pairs))), not missed(sheet, lot))
                    for bent in bent_parts((languages, pairs)):
                        if len(bent) == 2:
                            wanted = is_telling(sheet, sets, *tuples(bent))
                            self.assertIs(shows_telling(sheet, Telling(*bent)), wanted, bent)

    def test_any_other_value(self):
        for value in ODD + strangers(ZeroMother, *zero_mother(SHEET).parts) + [fewest_languages(SHEET)]:
            self.assertIs(shows_zero(SHEET, value), False)
        for value in ODD + strangers(Telling, *fewest_languages(SHEET).parts) + [zero_mother(SHEET)]:
            self.assertIs(shows_telling(SHEET, value), False)

    def test_wrong(self):
        for call in (shows_zero, shows_telling):
            for value in ODD:
                self.assertEqual(error_of(call, value, value), ("BadSheet", ("sheet",)))
                self.assertEqual(error_of(call, GAPS, value), ("BadSheet", ("gaps",)))


def is_telling(sheet, sets, languages, pairs):
    names = [tuple(sheet.languages[index] for index in lot) for lot in sets]
    if type(languages) is not tuple or languages not in names or type(pairs) is not tuple:
        return False
    at = names.index(languages)
    if missed(sheet, sets[at]) or len(pairs) != at:
        return False
    return all(type(pair) is tuple and all(type(place) is int for place in pair) and pair in missed(sheet, lot)
               for pair, lot in zip(pairs, sets))
