"""Point 1 for the program as a whole: no clock, chance or files; and the ground rules of its source."""

import ast
import os
import unittest
import warnings

import sharepack

FOLDER = os.path.dirname(os.path.abspath(sharepack.__file__))

# What the language lets the package import from outside of itself: nothing of it is a clock, chance or a file.
OUTSIDE = {"heapq", "math", "itertools", "collections"}

BARRED = {"open", "input", "print", "eval", "exec", "compile", "hash", "id", "globals", "locals", "vars"}


def sources():
    """Each file of the package: its name and its text."""
    found = []
    for place, _, names in os.walk(FOLDER):
        for name in sorted(names):
            if name.endswith(".py"):
                with open(os.path.join(place, name), encoding="utf-8") as file:
                    found.append((name, file.read()))
    return found


class GroundTest(unittest.TestCase):
    def test_the_package_is_found(self):
        names = [name for name, _ in sources()]
        for name in ("__init__.py", "errors.py", "shares.py", "pairing.py", "books.py", "packing.py", "telling.py"):
            self.assertIn(name, names)

    def test_no_clock_chance_or_files_are_imported(self):
        for name, text in sources():
            for node in ast.walk(ast.parse(text)):
                self.assertNotIsInstance(node, ast.Import, name)
                if isinstance(node, ast.ImportFrom):
                    self.assertEqual(node.level, 0, name)
                    top = node.module.split(".")[0]
                    self.assertTrue(top == "sharepack" or top in OUTSIDE, (name, node.module))

    def test_nothing_that_reads_or_prints_is_named(self):
        for name, text in sources():
            for node in ast.walk(ast.parse(text)):
                if isinstance(node, ast.Name):
                    self.assertNotIn(node.id, BARRED, name)

    def test_sizes_and_characters(self):
        for name, text in sources():
            rows = text.splitlines()
            self.assertLessEqual(len(rows), 399, name)
            for at, row in enumerate(rows, 1):
                self.assertLessEqual(len(row), 120, (name, at))
                self.assertTrue(all(" " <= sign <= "~" for sign in row), (name, at))

    def test_functions_are_small(self):
        for name, text in sources():
            for node in ast.walk(ast.parse(text)):
                if isinstance(node, ast.FunctionDef):
                    self.assertLessEqual(node.end_lineno - node.lineno + 1, 40, (name, node.name))

    def test_python_warns_of_no_line(self):
        for name, text in sources():
            with warnings.catch_warnings():
                warnings.simplefilter("error")
                compile(text, name, "exec")


if __name__ == "__main__":
    unittest.main()
