import unittest
from itertools import combinations

from foretongue.check_families import shows_tree
from foretongue.courses import Course
from foretongue.dyeings import is_mother
from foretongue.families import from_sheet, sharings_of
from foretongue.fates import fate_at
from foretongue.histories import aligned, history_sheet, own_dyeing
from foretongue.sheets import Sheet
from foretongue.shifts import Shift
from foretongue.trees import Crossing, all_trees, many_trees, tree_at, tree_of
from tests.helper import ODD, chances, error_of, plain_done, signs_match, some_course

LETTERS = "achik"
NO_SHIFTS = Course([])


def marked(course, word):
    """The aligned outcome by a marking: each sound keeps the number of its place, shift by shift."""
    sounds = [(sound, place) for place, sound in enumerate(word)]
    for shift in course.shifts:
        now = "".join(sound for sound, _ in sounds)
        made = [(shift.new if signs_match(now, at, shift) else sound, place) for at, (sound, place) in enumerate(sounds)]
        sounds = [(sound, place) for sound, place in made if sound]
    left = {place: sound for sound, place in sounds}
    return "".join(left.get(place, "-") for place in range(len(word)))


def some_mother_words(chance, many=6, total=12):
    words = []
    while len(words) < many and total > 0:
        words.append("".join(chance.choices(LETTERS[:4], k=chance.randrange(1, min(4, total) + 1))))
        total -= len(words[-1])
    return words[:chance.randrange(1, len(words) + 1)]


def some_history(chance, most=6):
    languages = ["old", "new", "x1", "y"][:chance.randrange(1, 5)]
    courses = [some_course(chance, LETTERS, chance.randrange(most + 1), falls=True) for _ in languages]
    return languages, courses, some_mother_words(chance)


def plain_own(words):
    sounds = "".join(words)
    order = sorted(set(sounds), key=sounds.index)
    return tuple(order.index(sound) for sound in sounds)


class Aligned(unittest.TestCase):
    def test_against_a_marking(self):
        fallen = 0
        for chance in chances(9000, 600):
            course = some_course(chance, LETTERS, chance.randrange(7), falls=True)
            word = "".join(chance.choices(LETTERS, k=chance.randrange(13)))
            told = aligned(course, word)
            fallen += "-" in told
            self.assertEqual(told, marked(course, word))
            self.assertEqual((len(told), told.replace("-", "")), (len(word), course.done(word)))
        self.assertGreater(fallen, 100)

    def test_one_shift_at_each_place(self):
        for chance in chances(9010, 100):
            course = some_course(chance, LETTERS, 1, falls=True)
            word = "".join(chance.choices(LETTERS, k=12))
            places = course.shifts[0].changes(word)
            wanted = "".join((course.shifts[0].new or "-") if at in places else sign for at, sign in enumerate(word))
            self.assertEqual(aligned(course, word), wanted)
            self.assertEqual(plain_done(course.shifts[0], word), wanted.replace("-", ""))

    def test_edges(self):
        self.assertEqual((aligned(NO_SHIFTS, "kah"), aligned(NO_SHIFTS, "")), ("kah", ""))
        self.assertEqual(aligned(Course([Shift("a", ""), Shift("h", "")]), "aha"), "---")
        self.assertEqual(aligned(Course([Shift("h", ""), Shift("a", "", "a", "a")]), "ahaha"), "a---a")

    def test_wrong(self):
        for value in ODD + [[], "-"]:
            self.assertEqual(error_of(aligned, value, value), ("BadCourse", ("course",)))
        for value in ODD + ["a-", "A", "a" * 13]:
            if value not in ("", "a"):
                self.assertEqual(error_of(aligned, NO_SHIFTS, value), ("BadWord", ("word",)), value)


class Histories(unittest.TestCase):
    def test_sheets(self):
        for chance in chances(9020, 150):
            languages, courses, words = some_history(chance)
            sheet = history_sheet(languages, courses, words)
            self.assertEqual(sheet, Sheet(languages, [[marked(course, word) for course in courses] for word in words]))
            self.assertEqual(history_sheet(tuple(languages), tuple(courses), tuple(words)), sheet)
            self.assertTrue(sheet.is_whole)
            for row, word in enumerate(words):
                for language, course in zip(languages, courses):
                    self.assertEqual(sheet.word(row, language), course.done(word))
            self.assertEqual(own_dyeing(words), plain_own(words))
            self.assertEqual(len(own_dyeing(words)), len(sheet.places))

    def test_the_own_dyeing_is_a_mother(self):
        for chance in chances(9030, 150):
            languages = ["old", "new", "x1", "y"][:chance.randrange(1, 5)]
            courses = [some_course(chance, LETTERS, chance.randrange(2), falls=True) for _ in languages[1:]]
            words = some_mother_words(chance)
            courses.insert(chance.randrange(len(languages)), NO_SHIFTS)
            self.assertIs(is_mother(history_sheet(languages, courses, words), 1, own_dyeing(words)), True)

    def test_it_need_not_be_with_more_shifts(self):
        course = Course([Shift("i", "e", right="a"), Shift("k", "c", right="i")])
        words = ["kia", "kih"]
        self.assertIs(is_mother(history_sheet(["old", "new"], [NO_SHIFTS, course], words), 1, own_dyeing(words)), False)

    def test_letters_exchanged(self):
        names = str.maketrans("ak", "ka")
        for chance in chances(9040, 60):
            languages, courses, words = some_history(chance)
            turned = [word.translate(names) for word in words]
            self.assertEqual(own_dyeing(turned), own_dyeing(words))
            sheet = history_sheet(languages, courses, words)
            told = history_sheet(languages, [course.renamed("a", "k") for course in courses], turned)
            self.assertEqual(told.rows, tuple(tuple(cell.translate(names) for cell in row) for row in sheet.rows))

    def test_a_word_more(self):
        for chance in chances(9050, 40):
            languages, courses, words = some_history(chance)
            if len(words) < 6 and sum(map(len, words)) < 12:
                more = history_sheet(languages, courses, [*words, words[0][:1]])
                self.assertEqual(more.without([len(words)]), history_sheet(languages, courses, words))
                self.assertEqual(own_dyeing([*words, words[0][:1]])[:-1], own_dyeing(words))
        told = history_sheet(["x"], [NO_SHIFTS], ["ka", "ka"])
        self.assertEqual(told.rows[0], told.rows[1])

    def test_many_places(self):
        self.assertEqual(own_dyeing(["abcdefghijkl", "mnopqrstuvwx", "yzab"])[-4:], (24, 25, 0, 1))
        self.assertEqual(own_dyeing(("a",) * 1000), (0,) * 1000)

    def test_wrong(self):
        for value in ODD + ["ab", ["a", "A"], ["a", None], ["1"], {"a": 1}]:
            if value not in (["a"], ("a", "b")):
                self.assertEqual(error_of(history_sheet, value, value, value), ("BadSheet", ("languages",)), value)
        self.assertEqual(error_of(history_sheet, ["a", "b", "b", "a"], 0, 0), ("Twice", ("b",)))
        five = list("abcde")
        for value in ODD + [NO_SHIFTS, [NO_SHIFTS, None], [[]], ["-"], {NO_SHIFTS.shifts: 1}]:
            if value not in ([], ()):
                self.assertEqual(error_of(history_sheet, five, value, value), ("BadCourse", ("courses",)))
        for value in ODD + ["ab", ["a", ""], [""], ["a-"], ["a", None], ["a" * 13], {"a": 1}]:
            if value not in (["a"], ("a", "b")):
                self.assertEqual(error_of(history_sheet, five, [], value), ("BadWord", ("words",)), value)
                self.assertEqual(error_of(own_dyeing, value), ("BadWord", ("words",)), value)
        self.assertEqual(error_of(history_sheet, five, [NO_SHIFTS] * 4, ["a"] * 7), ("Misfit", ("languages",)))
        self.assertEqual(error_of(history_sheet, ["a"], [], ["a"]), ("Misfit", ("languages",)))
        self.assertEqual(error_of(history_sheet, five, [NO_SHIFTS] * 5, ["a" * 12] * 7), ("TooMany", ("languages", 4)))
        self.assertEqual(error_of(history_sheet, ["a"], [NO_SHIFTS], ["a" * 12] * 7), ("TooMany", ("rows", 6)))
        self.assertEqual(error_of(history_sheet, ["a"], [NO_SHIFTS], ["a" * 12, "a"]), ("TooMany", ("places", 12)))


# Words in which all sounds have the same surroundings.
FOURS = ["a", "c", "h", "k"]


class FallingTogether(unittest.TestCase):
    def family(self, courses):
        sheet = history_sheet(list(courses), list(courses.values()), FOURS)
        return sheet, own_dyeing(FOURS)

    def test_fallings_of_the_sets_of_a_tree_do_not_cross(self):
        # All of p, q, r, s let a and c fall together; p, q let h fall together with k; so a tree is left.
        low, high = Shift("a", "c"), Shift("h", "k")
        both, one = Course([low, high]), Course([low])
        sheet, dyeing = self.family({"p": both, "q": both, "r": one, "s": one})
        family = from_sheet(sheet, 1, dyeing)
        self.assertEqual(family.sharings, (("p", "q"), ("p", "q", "r", "s")))
        self.assertEqual((bool(tree_of(family)), many_trees(family)), (True, 3))
        self.assertTrue(tree_of(from_sheet(sheet, 0, dyeing)))

    def test_fallings_of_any_tree(self):
        crossed = 0
        for chance in chances(9070, 60):
            languages = chance.sample("pqrs", chance.randrange(2, 5))
            tree = chance.choice(all_trees(languages))
            pairs = dict(zip(["ab", "cd", "ef"], tree))
            words = [letter for pair in pairs for letter in pair]
            sheet, dyeing = self.fallen_in(languages, words, pairs)
            self.assertEqual({row[0] for row in sharings_of(sheet, 1, dyeing)}, set(tree))
            family = from_sheet(sheet, 1, dyeing)
            self.assertIn(tree, [tree_at(family, number) for number in range(many_trees(family))])
            # One language alone goes its own way: it does not fall together with the others of one set.
            stray = {**pairs, chance.choice(list(pairs)): tuple(sorted(chance.sample(languages, 2)))}
            sheet, dyeing = self.fallen_in(languages, words, stray)
            told = sharings_of(sheet, 1, dyeing)
            self.assertEqual({row[0] for row in told}, set(stray.values()))
            answer = tree_of(from_sheet(sheet, 1, dyeing))
            if not answer:
                crossed += 1
                for number in answer.parts:
                    shared, place, other = told[number]
                    self.assertEqual(stray["".join(words[at] for at in (place, other))], shared)
        self.assertGreater(crossed, 5)

    def fallen_in(self, languages, words, pairs):
        """The sheet in which each pair of sounds falls together in its languages, and the own dyeing."""
        courses = [Course([Shift(*pair) for pair, told in pairs.items() if name in told]) for name in languages]
        return history_sheet(languages, courses, words), own_dyeing(words)

    def test_a_language_that_went_its_own_way_crosses(self):
        low, high = Shift("a", "c"), Shift("h", "k")
        courses = {"p": Course([low, high]), "q": Course([low]), "r": Course([high]), "s": NO_SHIFTS}
        sheet, dyeing = self.family(courses)
        self.assertEqual(sharings_of(sheet, 1, dyeing), ((("p", "q"), 0, 1), (("p", "r"), 2, 3)))
        told = tree_of(from_sheet(sheet, 1, dyeing))
        self.assertEqual(told, Crossing(0, 1))
        self.assertTrue(shows_tree(from_sheet(sheet, 1, dyeing), told))

    def test_what_falls_together_is_gone(self):
        found = 0
        for chance in chances(9060, 400):
            courses = {name: some_course(chance, "achk", chance.randrange(2)) for name in "pqr"}
            sheet, dyeing = self.family({**courses, "s": NO_SHIFTS})
            told = {languages: (place, other) for languages, place, other in sharings_of(sheet, 1, dyeing)}
            wanted = set()
            for one, other in combinations(FOURS, 2):
                gone = tuple(name for name, course in courses.items() if fate_at(course, one, other) == "gone")
                wanted |= {gone} if len(gone) > 1 else set()
            found += len(wanted)
            self.assertEqual(set(told), wanted)
            for languages, (place, other) in told.items():
                self.assertEqual([name for name in sheet.languages if sheet.cell(place, name) == sheet.cell(other, name)],
                                 list(languages))
        self.assertGreater(found, 5)
