"""The form of the package's files: what of ../shared/LANGUAGE.md is easily counted."""

import ast
import os
import unittest

PACKAGE = os.path.join(os.path.dirname(os.path.dirname(os.path.abspath(__file__))), "keepfew")
LIBRARY = ("heapq", "math", "itertools", "collections")


def texts():
    """Of each file of the package its name and its text."""
    found = []
    for name in sorted(os.listdir(PACKAGE)):
        if name != "__pycache__":
            with open(os.path.join(PACKAGE, name), encoding="utf-8", newline="") as held:
                found.append((name, held.read()))
    return found


class Form(unittest.TestCase):

    def test_only_py_files_and_no_tests(self):
        for name, _ in texts():
            self.assertRegex(name, r"\A[a-z0-9_]+\.py\Z")
            self.assertFalse(name.startswith("test"))

    def test_sizes(self):
        for name, text in texts():
            lines = text.split("\n")
            self.assertLessEqual(len(lines), 399, name)
            self.assertLessEqual(max(len(line) for line in lines), 120, name)
            for node in ast.walk(ast.parse(text)):
                if isinstance(node, ast.FunctionDef):
                    self.assertLessEqual(node.end_lineno - node.lineno, 39, (name, node.name))

    def test_signs(self):
        for name, text in texts():
            self.assertEqual([s for s in text if s != "\n" and not " " <= s <= "~"], [], name)

    def test_imports(self):
        for name, text in texts():
            tree = ast.parse(text)
            for node in ast.walk(tree):
                self.assertNotIsInstance(node, ast.Import, name)
                if isinstance(node, ast.ImportFrom):
                    self.assertIn(node, tree.body, name)
                    self.assertEqual(node.level, 0, name)
                    first = node.module.split(".")[0]
                    self.assertIn(first, ("keepfew",) + LIBRARY, name)

    def test_module_level(self):
        plain = (ast.ImportFrom, ast.FunctionDef, ast.ClassDef, ast.Assign, ast.Expr)
        for name, text in texts():
            for node in ast.parse(text).body:
                self.assertIsInstance(node, plain, name)
                if isinstance(node, ast.Expr):
                    self.assertIsInstance(node.value, ast.Constant, name)


if __name__ == "__main__":
    unittest.main()
