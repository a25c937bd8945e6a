"""The examples of the interface, word for word, one behind another with the names that they make."""

import importlib
import unittest
from pathlib import Path

FOLDER = Path(__file__).resolve().parent
PACKAGE = FOLDER.parent / "foretongue"


def examples():
    """The triples of a section, a line of an example, and what is told below it."""
    section, told = "", []
    for line in (FOLDER / "examples.txt").read_text().splitlines():
        if line.startswith("## "):
            section = line[3:]
        elif line.startswith(">>> "):
            told.append((section, line[4:], []))
        elif line:
            told[-1][2].append(line)
    return [(section, line, "\n".join(below)) for section, line, below in told]


def names_of_package():
    names = {}
    for path in sorted(PACKAGE.glob("*.py")):
        if path.stem not in ("__init__", "__main__"):
            names.update(vars(importlib.import_module("foretongue." + path.stem)))
    return names


class Examples(unittest.TestCase):
    def check(self, line, below, names):
        if below.startswith("raises "):
            wanted = eval(below.removeprefix("raises "), names)
            with self.assertRaises(type(wanted)) as caught:
                eval(line, names)
            self.assertEqual(vars(caught.exception), vars(wanted))
        elif below:
            self.assertEqual(repr(eval(line, names)), below)
        else:
            exec(line, names)

    def test_examples(self):
        told = examples()
        self.assertTrue(told)
        names = names_of_package()
        for section, line, below in told:
            with self.subTest(section=section, line=line):
                self.check(line, below, names)
