"""The plain limits of the language in which the package is written."""

import ast
import builtins
import unittest
from pathlib import Path

PACKAGE = Path(__file__).resolve().parent.parent / "safehelms"
LIBRARY = {"heapq", "math", "itertools", "collections", "__future__"}


def trees():
    for path in sorted(PACKAGE.rglob("*.py")):
        yield path, path.read_text(encoding="utf-8"), ast.parse(path.read_text(encoding="utf-8"))


class Files(unittest.TestCase):
    def test_lines_and_characters(self):
        for path, text, _ in trees():
            lines = text.split("\n")
            self.assertLess(len(lines), 401, path)
            for at, line in enumerate(lines):
                self.assertLessEqual(len(line), 120, (path, at))
                self.assertTrue(all(" " <= sign <= "~" for sign in line), (path, at))

    def test_functions_are_short(self):
        for path, _, tree in trees():
            for node in ast.walk(tree):
                if isinstance(node, ast.FunctionDef):
                    self.assertLessEqual(node.end_lineno - node.lineno + 1, 40, (path, node.name))

    def test_module_level(self):
        for path, _, tree in trees():
            for node in tree.body:
                self.assertIsInstance(node, (ast.Expr, ast.ImportFrom, ast.FunctionDef, ast.ClassDef, ast.Assign), path)

    def test_imports(self):
        for path, _, tree in trees():
            for node in ast.walk(tree):
                self.assertNotIsInstance(node, ast.Import, path)
                if isinstance(node, ast.ImportFrom):
                    self.assertEqual(node.level, 0, path)
                    self.assertTrue(node.module in LIBRARY or node.module.startswith("safehelms."), path)

    def test_names(self):
        """No name is a builtin's, and none that a file assigns is that of an import or a class of it."""
        for path, _, tree in trees():
            imported = {name.name for node in ast.walk(tree) if isinstance(node, ast.ImportFrom) for name in node.names}
            classes = {node.name for node in ast.walk(tree) if isinstance(node, ast.ClassDef)}
            read = {node.id for node in ast.walk(tree) if isinstance(node, ast.Name) and isinstance(node.ctx, ast.Load)}
            self.assertEqual(imported - read, set(), path)
            for node in ast.walk(tree):
                bound = [node.arg] if isinstance(node, ast.arg) else [node.name] if isinstance(node, ast.FunctionDef) \
                    else [node.id] if isinstance(node, ast.Name) and isinstance(node.ctx, ast.Store) else []
                for name in bound:
                    self.assertTrue(name == "__init__" or not hasattr(builtins, name), (path, name))
                    self.assertNotIn(name, imported | classes, path)

    def test_what_is_called_with_keywords_or_stars(self):
        own = {node.name for _, _, tree in trees() for node in ast.walk(tree)
               if isinstance(node, (ast.FunctionDef, ast.ClassDef))}
        for path, _, tree in trees():
            for node in ast.walk(tree):
                if isinstance(node, ast.Call):
                    self.assertFalse(any(isinstance(part, ast.Starred) for part in node.args), (path, node.lineno))
                    name = node.func.id if isinstance(node.func, ast.Name) else None
                    for keyword in node.keywords:
                        self.assertTrue(name in own or (name, keyword.arg) == ("enumerate", "start"), (path, node.lineno))

    def test_no_floats_and_none_of_what_is_barred(self):
        for path, _, tree in trees():
            for node in ast.walk(tree):
                self.assertNotIsInstance(node, (ast.Global, ast.AsyncFunctionDef, ast.Await, ast.Div), path)
                if isinstance(node, ast.Constant):
                    self.assertNotIsInstance(node.value, (float, complex), path)


if __name__ == "__main__":
    unittest.main()
