"""The package as a whole: what it may hang on (point 1)."""

import ast
import os
import subprocess
import sys
import unittest

TOP = os.path.dirname(os.path.dirname(os.path.abspath(__file__)))
PACKAGE = os.path.join(TOP, "foldercode")

ASKING = """
from foldercode.fold import folded
from foldercode.notes import read, shown
from foldercode.reckon import value
from foldercode.trees import deep, needs, size
expr = ("name", "first")
for name in ("q", "w", "ee", "rrr", "sum", "let", "abcdefgh", "z", "a"):
    expr = ("sum", expr, ("let", "own", ("name", name), ("name", "own")))
print(size(expr), deep(expr), needs(expr))
numbers = {name: at * at for at, name in enumerate(needs(expr))}
print(value(expr, numbers))
print(shown(folded(expr, {"q": 1, "sum": 3, "let": 5, "own": 8})))
print(read(shown(expr)) == expr)
"""


def sources():
    """The package's files, each with its name and its text."""
    for name in sorted(os.listdir(PACKAGE)):
        if name != "__pycache__":
            with open(os.path.join(PACKAGE, name), encoding="ascii") as file:
                yield name, file.read()


class NothingFromOutside(unittest.TestCase):

    def test_the_folder_holds_only_source(self):
        names = [name for name, _ in sources()]
        self.assertIn("__init__.py", names)
        for name in names:
            self.assertRegex(name, "^[a-z_]+[.]py$")

    def test_the_package_imports_only_from_itself(self):
        for name, text in sources():
            for node in ast.walk(ast.parse(text)):
                with self.subTest(file=name):
                    self.assertNotIsInstance(node, ast.Import)
                    if isinstance(node, ast.ImportFrom):
                        self.assertEqual(node.level, 0)
                        self.assertEqual(node.module.split(".")[0], "foldercode")

    def test_other_runs_tell_the_same(self):
        wanted = (
            "37 11 ['first', 'q', 'w', 'ee', 'rrr', 'sum', 'let', 'abcdefgh', 'z', 'a']\n"
            "285\n"
            "(sum (sum (sum (sum (sum (sum (sum (sum first 1) (let own w own)) (let own ee own)) (let own rrr own))"
            " 8) (let own abcdefgh own)) (let own z own)) (let own a own))\n"
            "True\n")
        for seed in ("0", "1", "2"):
            with self.subTest(seed=seed):
                told = subprocess.run(
                    [sys.executable, "-B", "-c", ASKING], check=True, capture_output=True, text=True,
                    cwd=os.sep, env={**os.environ, "PYTHONPATH": TOP, "PYTHONHASHSEED": seed})
                self.assertEqual(told.stdout, wanted)


if __name__ == "__main__":
    unittest.main()
