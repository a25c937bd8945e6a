"""The names and arguments of the interface, each defined in the file under which it stands."""

import ast
import unittest
from pathlib import Path

PACKAGE = Path(__file__).resolve().parent.parent / "foretongue"
FUNCTIONS = {
    "columns": ["are_akin(sheet, place, other)", "akin_pairs(sheet)"],
    "zero": ["zero(sheet)", "zero_mother(sheet)", "fewest_languages(sheet)", "sheet_from(languages, words, columns)",
             "compared(sheet, other)"],
    "check_zero": ["shows_zero(sheet, value)", "shows_telling(sheet, value)"],
    "dyeings": ["is_dyeing(value)", "dyeing_of(numbers)", "size_of(dyeing)", "lots_of(dyeing)", "refines(one, other)",
                "joined(dyeing, sound, other)", "why_no_mother(sheet, width, dyeing)", "is_mother(sheet, width, dyeing)",
                "dyeing_of_rows(sheet, rows, dyeing)", "table_of(sheet, width, dyeing, language)"],
    "mothers": ["mothers(sheet, width, most)", "many_mothers(sheet, width, most)", "mother_at(sheet, width, most, number)",
                "coarsest_mothers(sheet, width)"],
    "refusing": ["mother_of(sheet, width, most)", "least_size(sheet, width)", "barring_rows(sheet, width, most)"],
    "check_mothers": ["shows_mother(sheet, width, most, value)", "shows_least(sheet, width, value)",
                      "shows_barring(sheet, width, most, value)"],
    "sayings": ["holds(saying, sheet, dyeing)", "told_of(saying, rows)"],
    "answers": ["answer(sheet, width, most, saying)", "kept_at_once(sheet, width, most, sayings)"],
    "sureties": ["pairs_told(sheet, width, most)", "sure_lots(sheet, width, most)", "fewest_rows(sheet, width, most, saying)"],
    "check_answers": ["shows_answer(sheet, width, most, saying, value)", "shows_at_once(sheet, width, most, sayings, value)",
                      "shows_rows(sheet, width, most, saying, value)"],
    "pairs": [],
    "orders": ["possible_orders(told)", "order_of(told)", "outcomes_of(told, words)"],
    "befores": ["before(told, one, other)", "firm(told)"],
    "ways": ["one_way(told, stock)", "alike_orders(told, stock)", "probe(told, stock, most)"],
    "check_orders": ["shows_order(told, value)", "shows_before(told, one, other, value)", "shows_firm(told, value)",
                     "shows_one_way(told, stock, value)"],
    "families": ["sharings_of(sheet, width, dyeing)", "from_sheet(sheet, width, dyeing)"],
    "trees": ["is_tree(languages, value)", "all_trees(languages)", "tree_of(family)", "many_trees(family)",
              "tree_at(family, number)"],
    "crossings": ["crossings(family)", "struck(family)", "comings(family, tree)", "best(family)", "best_trees(family)",
                  "sure_sets(family)", "open_sets(family)", "elder(family, one, other)"],
    "check_families": ["shows_tree(family, value)", "shows_struck(family, value)", "shows_best(family, value)"],
    "strangers": ["is_shut(sheet, width, most, rows)", "all_strangers(sheet, width, most)",
                  "sure_strangers(sheet, width, most)", "fewest_strangers(sheet, width, most)", "layers(sheet, width, most)"],
    "within": ["by_one_rule(words, sound, other, wide=1)", "coarsest(words, wide=1)", "rule_table(words, lot, wide=1)",
               "parted_by(words, word, wide=1)"],
    "rules": ["rule_history(course, words, sound, other)", "splits(course, stock, sound, other)",
              "split_history(course, stock, sound, other)"],
    "check_within": ["shows_strangers(sheet, width, most, value)", "shows_layers(sheet, width, most, value)",
                     "shows_rule(words, sound, other, wide, value)", "shows_split(course, stock, sound, other, value)"],
    "gaps": ["loose(sheet, cells)", "filled(sheet, cells)", "fillings(sheet, width, most)",
             "cell_of(sheet, width, most, row, language)"],
    "asking": ["best_gap(sheet, width, most)", "key_gaps(sheet, width, most)",
               "tells(sheet, width, most, saying, row, language)", "settling(sheet, width, most, saying)"],
    "check_gaps": ["shows_filled(sheet, width, most, value)", "shows_cell(sheet, width, most, row, language, value)",
                   "shows_ask(sheet, width, most, value)", "shows_key(sheet, width, most, value)",
                   "shows_settled(sheet, width, most, saying, value)"],
    "histories": ["aligned(course, word)", "history_sheet(languages, courses, words)", "own_dyeing(words)"],
    "desk_lines": ["read_line(line)"],
    "desk_deeds": ["changed(shelf, line)"],
    "desk_asks": ["answer_of(shelf, line)"],
    "stories": ["replay(lines)", "parting(one, other)"],
}
SIGNS = ["__eq__(self, other)", "__str__(self)", "__invert__(self)", "__and__(self, other)"]
CLASSES = {
    "zero": {"ZeroMother": ["__init__(self, dyeing, columns)"], "Telling": ["__init__(self, languages, pairs)"]},
    "refusing": {"Mother": ["__init__(self, dyeing)"], "Least": ["__init__(self, dyeing, tree)"],
                 "NoMother": ["__init__(self, tree)"], "Barring": ["__init__(self, rows, tree, others)"]},
    "sayings": {"Saying": ["read(text)"], "Same": ["__init__(self, place, other)"] + SIGNS,
                "AlikeRows": ["__init__(self, row, other)"] + SIGNS, "Sizes": ["__init__(self, size)"] + SIGNS,
                "Not": ["__init__(self, saying)"] + SIGNS, "Both": ["__init__(self, one, other)"] + SIGNS},
    "answers": {"Sure": ["__init__(self, tree)"], "Open": ["__init__(self, one, other)"], "Never": ["__init__(self, tree)"],
                "AtOnce": ["__init__(self, dyeing)"], "Clash": ["__init__(self, numbers, tree, others)"]},
    "sureties": {"Rows": ["__init__(self, rows, tree, others)"]},
    "pairs": {"Pairs": ["__init__(self, shifts, pairs)", "course_by(self, order)", "misfits(self, order)",
                        "with_pair(self, word, outcome)", "without(self, numbers)", "of(course, words)", "read(text)",
                        "__len__(self)", "__eq__(self, other)", "__str__(self)"]},
    "orders": {"Fits": ["__init__(self, order)"], "NoOrder": ["__init__(self, numbers)"]},
    "befores": {"Ahead": ["__init__(self, numbers)"], "Behind": ["__init__(self, numbers)"],
                "Either": ["__init__(self, first, second)"], "AllKept": ["__init__(self, pairs)"],
                "Loose": ["__init__(self, pairs, order)"]},
    "ways": {"OneWay": ["__init__(self, orders)"], "TwoWays": ["__init__(self, first, second, word)"]},
    "families": {"Family": ["__init__(self, languages, sharings)", "without(self, numbers)",
                            "with_language(self, language, numbers)", "read(text)", "__len__(self)", "__eq__(self, other)",
                            "__str__(self)"]},
    "trees": {"Tree": ["__init__(self, sets)"], "Crossing": ["__init__(self, one, other)"]},
    "crossings": {"Struck": ["__init__(self, numbers, tree)"], "Best": ["__init__(self, sets, many)"]},
    "strangers": {"Strangers": ["__init__(self, rows, dyeing, bars)"], "Layers": ["__init__(self, rows, one, other)"],
                  "NoLayers": ["__init__(self, bars)"]},
    "within": {"OneRule": ["__init__(self, one, other)"], "Against": ["__init__(self, one, other)"]},
    "rules": {"Ruled": ["__init__(self, rows)"], "Split": ["__init__(self, one, other)"]},
    "gaps": {"Filled": ["__init__(self, cells, dyeing)"], "ForcedCell": ["__init__(self, cell)"],
             "OpenCell": ["__init__(self, cells)"], "NoFilling": ["__init__(self)"]},
    "asking": {"Ask": ["__init__(self, row, language, left)"], "Key": ["__init__(self, gaps)"],
               "Tells": ["__init__(self, sure, never, either)"], "Settled": ["__init__(self, gaps)"]},
    "shelves": {"Shelf": ["__init__(self, things=(), width=1, most=8)", "thing(self, name)", "__eq__(self, other)"]},
    "desk": {"Desk": ["__init__(self)", "told(self, *lines)", "__call__(self, line)", "tried(self, *lines)", "undo(self)",
                      "redo(self)", "twin(self)", "__len__(self)", "__contains__(self, value)", "__eq__(self, other)"]},
}


def told(nodes):
    """The functions among some nodes, with their arguments."""
    return {f"{node.name}({ast.unparse(node.args)})" for node in nodes if isinstance(node, ast.FunctionDef)}


class Interface(unittest.TestCase):
    def test_functions(self):
        for name, functions in FUNCTIONS.items():
            tree = ast.parse((PACKAGE / f"{name}.py").read_text())
            self.assertLessEqual(set(functions), told(tree.body), name)

    def test_classes(self):
        for name, classes in CLASSES.items():
            tree = ast.parse((PACKAGE / f"{name}.py").read_text())
            made = {node.name: node for node in tree.body if isinstance(node, ast.ClassDef)}
            for known, methods in classes.items():
                self.assertLessEqual(set(methods), told(made[known].body), (name, known))
