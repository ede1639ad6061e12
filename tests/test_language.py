"""The plain limits of the language in which the package is written."""

import ast
import unittest
from pathlib import Path

PACKAGE = Path(__file__).resolve().parent.parent / "safehelms"
LIBRARY = {"heapq", "math", "itertools", "collections", "__future__"}


def trees():
    for path in sorted(PACKAGE.rglob("*.py")):
        yield path, path.read_text(encoding="utf-8"), ast.parse(path.read_text(encoding="utf-8"))


class Files(unittest.TestCase):
    def test_lines_and_characters(self):
        for path, text, _ in trees():
            lines = text.split("\n")
            self.assertLess(len(lines), 401, path)
            for at, line in enumerate(lines):
                self.assertLessEqual(len(line), 120, (path, at))
                self.assertTrue(all(" " <= sign <= "~" for sign in line), (path, at))

    def test_functions_are_short(self):
        for path, _, tree in trees():
            for node in ast.walk(tree):
                if isinstance(node, ast.FunctionDef):
                    self.assertLessEqual(node.end_lineno - node.lineno + 1, 40, (path, node.name))

    def test_module_level(self):
        for path, _, tree in trees():
            for node in tree.body:
                self.assertIsInstance(node, (ast.Expr, ast.ImportFrom, ast.FunctionDef, ast.ClassDef, ast.Assign), path)

    def test_imports(self):
        for path, _, tree in trees():
            for node in ast.walk(tree):
                self.assertNotIsInstance(node, ast.Import, path)
                if isinstance(node, ast.ImportFrom):
                    self.assertEqual(node.level, 0, path)
                    self.assertTrue(node.module in LIBRARY or node.module.startswith("safehelms."), path)

    def test_no_floats_and_none_of_what_is_barred(self):
        for path, _, tree in trees():
            for node in ast.walk(tree):
                self.assertNotIsInstance(node, (ast.Global, ast.AsyncFunctionDef, ast.Await, ast.Div), path)
                if isinstance(node, ast.Constant):
                    self.assertNotIsInstance(node.value, (float, complex), path)


if __name__ == "__main__":
    unittest.main()
