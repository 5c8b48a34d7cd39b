"""Point 1: nothing uses a clock, chance or files, so the package draws on nothing that could."""

import ast
import builtins
import pathlib
import unittest

PACKAGE = pathlib.Path(__file__).resolve().parent.parent / "leafsheet"

# Python's own names that the package may use.
ALLOWED = frozenset("""
    len range enumerate zip min max sum abs sorted reversed int str bool list tuple dict set frozenset
    isinstance ord repr any all divmod Exception ValueError TypeError KeyError IndexError LookupError
    ZeroDivisionError ArithmeticError OverflowError RuntimeError NotImplementedError AttributeError
    StopIteration
""".split())


def nodes(path):
    return list(ast.walk(ast.parse(path.read_text(encoding="utf-8"))))


class PlainCode(unittest.TestCase):
    def setUp(self):
        self.files = sorted(PACKAGE.glob("**/*.py"))

    def test_the_files_are_found(self):
        names = [path.name for path in self.files]
        for name in ("__init__.py", "day.py", "errors.py", "formulas.py", "leaning.py", "places.py", "sheets.py"):
            self.assertIn(name, names)

    def test_imports_are_of_the_package_alone(self):
        for path in self.files:
            for node in nodes(path):
                with self.subTest(file=path.name):
                    self.assertNotIsInstance(node, ast.Import)
                    if isinstance(node, ast.ImportFrom):
                        self.assertEqual(node.level, 0)
                        self.assertEqual(node.module.split(".")[0], "leafsheet")

    def test_none_but_allowed_names_of_python(self):
        for path in self.files:
            used = {node.id for node in nodes(path) if isinstance(node, ast.Name)}
            with self.subTest(file=path.name):
                self.assertEqual(sorted((used & set(dir(builtins))) - ALLOWED), [])

    def test_no_statement_that_reaches_around_a_function(self):
        for path in self.files:
            for node in nodes(path):
                with self.subTest(file=path.name):
                    self.assertNotIsInstance(node, (ast.Global, ast.Nonlocal, ast.With))


if __name__ == "__main__":
    unittest.main()
