"""The rules of LANGUAGE.md that a reading of the files can check."""

import ast
import builtins
import unittest
from pathlib import Path

PACKAGE = Path(__file__).resolve().parent.parent / "foretongue"
LIBRARY = {"heapq": {"heappush", "heappop", "heapify", "heapreplace", "heappushpop"},
           "math": {"gcd", "lcm", "isqrt", "comb", "perm", "factorial"},
           "itertools": {"product", "combinations", "permutations", "chain", "accumulate", "pairwise", "islice",
                         "zip_longest"},
           "collections": {"defaultdict"}}
BUILTINS = set("""len range enumerate zip min max sum abs sorted reversed int str bool bytes list tuple dict set frozenset
isinstance ord repr any all divmod pow iter next map super ValueError Exception KeyError IndexError LookupError
NotImplemented staticmethod classmethod property""".split())
METHODS = set("""append clear copy count endswith extend find get index insert isalnum isalpha isdigit islower isspace
isupper items join keys ljust lower lstrip partition pop remove replace reverse rfind rjust rpartition rsplit rstrip
setdefault split splitlines startswith strip update upper values zfill bit_length title capitalize swapcase casefold center
expandtabs removeprefix removesuffix rindex isascii isdecimal isnumeric istitle isidentifier isprintable add discard
__init__""".split())
DUNDERS = set("""__init__ __eq__ __repr__ __str__ __len__ __call__ __bool__ __and__ __invert__ __contains__""".split())
WORDS = {"type", "typing", "enum", "Enum", "Generic", "Protocol", "ABC", "namedtuple", "NamedTuple", "dataclass"}
BUILTIN_MEMBERS = {name for made in (str, int, list, dict, set, bytes) for name in dir(made)}


def files():
    return sorted(PACKAGE.glob("*.py"))


def trees():
    return [(path, ast.parse(path.read_text())) for path in files()]


def bound_names(tree):
    """All names that are assigned, imported, defined or parameters, each with its node."""
    for node in ast.walk(tree):
        if isinstance(node, ast.Name) and isinstance(node.ctx, ast.Store):
            yield node.id, node
        elif isinstance(node, ast.arg):
            yield node.arg, node
        elif isinstance(node, ast.alias):
            yield node.name, node


def top_names(tree):
    """The names of a module level: imports, functions, classes, values."""
    for node in tree.body:
        if isinstance(node, ast.ImportFrom):
            yield from [alias.name for alias in node.names]
        elif isinstance(node, (ast.FunctionDef, ast.ClassDef)):
            yield node.name
        elif isinstance(node, ast.Assign):
            yield node.targets[0].id


def is_table_of_functions(tree, node):
    """Whether an assignment gives a name a dict of literal keys and of functions that are defined above it."""
    above = {told.name for told in tree.body if isinstance(told, ast.FunctionDef) and told.lineno < node.lineno}
    if not isinstance(node.value, ast.Dict) or not all(isinstance(key, ast.Constant) for key in node.value.keys):
        return False
    return all(isinstance(value, ast.Name) and value.id in above for value in node.value.values)


def names_own_error(tree, handler):
    """Whether a handler names an error class of the package."""
    imported = [alias.name for node in tree.body if isinstance(node, ast.ImportFrom)
                and node.module == "foretongue.errors" for alias in node.names]
    return isinstance(handler.type, ast.Name) and handler.type.id in imported


class Language(unittest.TestCase):
    def test_files(self):
        stray = [path for path in PACKAGE.rglob("*") if path.suffix != ".py" and "__pycache__" not in path.parts]
        self.assertEqual(stray, [])
        self.assertLessEqual(len(files()), 100)

    def test_sizes_and_characters(self):
        for path in files():
            text = path.read_text()
            self.assertTrue(all(sign == "\n" or " " <= sign <= "~" for sign in text), path)
            lines = text.splitlines()
            self.assertLessEqual(len(lines), 399, path)
            self.assertLessEqual(max(map(len, lines), default=0), 120, path)
            self.assertFalse([line for line in lines if line != line.rstrip()], path)

    def test_functions_are_short(self):
        for path, tree in trees():
            for node in ast.walk(tree):
                if isinstance(node, ast.FunctionDef):
                    self.assertLessEqual(node.end_lineno - node.lineno + 1, 40, (path, node.name))

    def test_statements_of_modules(self):
        for path, tree in trees():
            for node in tree.body:
                is_docstring = isinstance(node, ast.Expr) and isinstance(node.value, ast.Constant)
                is_value = isinstance(node, ast.Assign) and len(node.targets) == 1
                known = (ast.ImportFrom, ast.FunctionDef, ast.ClassDef)
                self.assertTrue(is_docstring or is_value or isinstance(node, known), (path, node.lineno))
                if is_value and not is_table_of_functions(tree, node):
                    ast.literal_eval(node.value)

    def test_imports(self):
        tops = {path.stem: tree for path, tree in trees()}
        needs = {}
        for name, tree in tops.items():
            needs[name] = set()
            for node in ast.walk(tree):
                self.assertNotIsInstance(node, ast.Import)
                if isinstance(node, ast.ImportFrom):
                    self.assertIn(node, tree.body)
                    self.check_import(node, tops, needs[name])
        while needs:
            free = [name for name, others in needs.items() if not others & set(needs)]
            self.assertTrue(free, "files import from each other")
            for name in free:
                del needs[name]

    def check_import(self, node, tops, needs):
        self.assertEqual(node.level, 0)
        if node.module in LIBRARY:
            self.assertLessEqual({alias.name for alias in node.names}, LIBRARY[node.module])
            return
        package, name = node.module.split(".")
        self.assertEqual(package, "foretongue")
        needs.add(name)
        defined = {told.name for told in tops[name].body if isinstance(told, (ast.FunctionDef, ast.ClassDef))}
        defined |= {told.targets[0].id for told in tops[name].body if isinstance(told, ast.Assign)}
        for alias in node.names:
            self.assertIn(alias.name, defined)
            self.assertIsNone(alias.asname)

    def test_imports_are_used(self):
        for path, tree in trees():
            used = {node.id for node in ast.walk(tree) if isinstance(node, ast.Name)}
            imported = [alias.name for node in tree.body if isinstance(node, ast.ImportFrom) for alias in node.names]
            self.assertEqual([name for name in imported if name not in used], [], path)

    def test_one_binding_for_each_name(self):
        for path, tree in trees():
            names = list(top_names(tree))
            self.assertEqual(len(names), len(set(names)), path)
            for name in names:
                self.assertFalse(hasattr(builtins, name), (path, name))
            barred = {alias.name for node in tree.body if isinstance(node, ast.ImportFrom) for alias in node.names}
            barred |= {node.name for node in tree.body if isinstance(node, ast.ClassDef)}
            for name, node in bound_names(tree):
                self.assertFalse(hasattr(builtins, name), (path, name))
                if not isinstance(node, ast.alias):
                    self.assertNotIn(name, barred, path)
                self.assertFalse(name.startswith("__"), (path, name))

    def test_names_of_functions_and_classes_stand_once(self):
        places = {}
        for path, tree in trees():
            for node in tree.body:
                if isinstance(node, (ast.FunctionDef, ast.ClassDef)):
                    self.assertFalse(node.name in places, (path, node.name, places.get(node.name)))
                    places[node.name] = path

    def test_no_other_syntax(self):
        barred = (ast.Global, ast.Nonlocal, ast.AsyncFunctionDef, ast.GeneratorExp, ast.Yield, ast.YieldFrom,
                  ast.With, ast.Match, ast.NamedExpr, ast.AnnAssign, ast.Div, ast.MatMult, ast.Delete)
        for path, tree in trees():
            for node in ast.walk(tree):
                self.assertNotIsInstance(node, barred, (path, getattr(node, "lineno", 0)))
                if isinstance(node, ast.Try):
                    self.assertTrue(all(names_own_error(tree, handler) for handler in node.handlers), path)
                    self.assertEqual((node.orelse, node.finalbody), ([], []), path)
                if isinstance(node, ast.Constant):
                    self.assertNotIsInstance(node.value, (float, complex))
                if isinstance(node, ast.Compare):
                    for sign, right in zip(node.ops, node.comparators):
                        if isinstance(sign, (ast.Is, ast.IsNot)):
                            self.assertIn(ast.unparse(right), ("None", "True", "False"))

    def test_decorators_and_methods(self):
        for path, tree in trees():
            for node in ast.walk(tree):
                if isinstance(node, ast.FunctionDef):
                    told = [ast.unparse(decorator) for decorator in node.decorator_list]
                    self.assertIn(told, ([], ["staticmethod"], ["classmethod"], ["property"]), path)
                    if node.name.startswith("__"):
                        self.assertIn(node.name, DUNDERS, path)
                    if "__eq__" not in node.name and not node.name.startswith("__"):
                        self.assertNotIn("__", node.name)

    def test_names_of_methods_and_attributes(self):
        for path, tree in trees():
            for made in [node for node in tree.body if isinstance(node, ast.ClassDef)]:
                methods = {node.name for node in made.body if isinstance(node, ast.FunctionDef)}
                fields = {node.attr for node in ast.walk(made) if isinstance(node, ast.Attribute)
                          and isinstance(node.ctx, ast.Store)}
                self.assertEqual(methods & fields, set(), (path, made.name))
                for name in (methods | fields) - DUNDERS:
                    self.assertNotIn(name, BUILTIN_MEMBERS - {"count", "index", "title"}, (path, made.name))

    def test_what_is_called(self):
        own = {node.name for _, tree in trees() for node in ast.walk(tree) if isinstance(node, ast.FunctionDef)}
        for path, tree in trees():
            for node in ast.walk(tree):
                if isinstance(node, ast.Call) and isinstance(node.func, ast.Attribute):
                    self.assertIn(node.func.attr, METHODS | own, (path, node.lineno))
                if isinstance(node, ast.Name) and hasattr(builtins, node.id):
                    self.assertIn(node.id, BUILTINS, (path, node.lineno))

    def test_strings(self):
        for path, tree in trees():
            docstrings = set()
            for node in ast.walk(tree):
                if isinstance(node, (ast.Module, ast.ClassDef, ast.FunctionDef)) and ast.get_docstring(node):
                    docstrings.add(id(node.body[0].value))
            for node in ast.walk(tree):
                if isinstance(node, ast.Constant) and isinstance(node.value, str) and id(node) not in docstrings:
                    self.assertNotIn("%", node.value, path)
                    self.assertNotIn(node.value, WORDS, path)
            names = {node.id for node in ast.walk(tree) if isinstance(node, ast.Name)}
            names |= {node.attr for node in ast.walk(tree) if isinstance(node, ast.Attribute)}
            self.assertEqual(names & WORDS, set(), path)

    def test_two_lambdas_on_one_line(self):
        for path, tree in trees():
            lines = [node.lineno for node in ast.walk(tree) if isinstance(node, ast.Lambda)]
            self.assertEqual(len(lines), len(set(lines)), path)

    def test_sets_are_tested_sorted_or_measured(self):
        for path, tree in trees():
            for node in ast.walk(tree):
                if isinstance(node, (ast.For, ast.comprehension)):
                    self.assertFalse(ast.unparse(node.iter).startswith("set("), path)

    def test_docstrings(self):
        for path, tree in trees():
            for node in ast.walk(tree):
                if isinstance(node, (ast.Module, ast.ClassDef)):
                    self.assertTrue(ast.get_docstring(node), path)
            for node in ast.walk(tree):
                if isinstance(node, ast.FunctionDef) and not node.name.startswith("__"):
                    self.assertTrue(ast.get_docstring(node), (path, node.name))
