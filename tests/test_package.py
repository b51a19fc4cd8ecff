"""Point 1 for the package as a whole: it uses no clock, no chance and no files."""

import ast
import pathlib
import unittest

PACKAGE = pathlib.Path(__file__).resolve().parent.parent / "movehouse"
LIBRARY = {"__future__", "heapq", "math", "itertools", "collections"}
BARRED = {"open", "input", "print", "eval", "exec", "compile", "__import__", "globals", "locals", "vars", "hash", "id"}


def trees():
    return [(path.name, ast.parse(path.read_text("utf-8"))) for path in sorted(PACKAGE.rglob("*.py"))]


def imported(tree):
    """The first words of all that a file imports."""
    words = []
    for node in ast.walk(tree):
        if isinstance(node, ast.Import):
            words.extend(alias.name.split(".")[0] for alias in node.names)
        elif isinstance(node, ast.ImportFrom):
            words.append("." if node.level else node.module.split(".")[0])
    return words


class PackageTest(unittest.TestCase):
    def test_the_files_are_found(self):
        files = {"__init__.py", "errors.py", "desk.py", "callers.py", "houses.py", "world.py"}
        self.assertLessEqual(files, {name for name, _ in trees()})

    def test_imports_nothing_that_reaches_a_clock_chance_or_files(self):
        for name, tree in trees():
            with self.subTest(name=name):
                self.assertLessEqual(set(imported(tree)), LIBRARY | {"movehouse"})

    def test_names_nothing_that_reaches_outside(self):
        for name, tree in trees():
            with self.subTest(name=name):
                used = {node.id for node in ast.walk(tree) if isinstance(node, ast.Name)}
                self.assertEqual(used & BARRED, set())


if __name__ == "__main__":
    unittest.main()
