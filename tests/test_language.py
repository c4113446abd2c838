"""Rules of the language that can be read off the files of the package without judgement."""

import ast
import os
import re
import unittest
import warnings

import ringheld

FOLDER = os.path.dirname(ringheld.__file__)
IMPORTS = {"heapq", "math", "itertools", "collections", "__future__"}
TOP_LEVEL = (ast.ImportFrom, ast.FunctionDef, ast.ClassDef, ast.Assign)
BARRED = (ast.AsyncFunctionDef, ast.Await, ast.Import, ast.Div)


def is_docstring(node):
    return isinstance(node, ast.Expr) and isinstance(node.value, ast.Constant) and isinstance(node.value.value, str)


class Language(unittest.TestCase):
    def files(self):
        names = sorted(name for name in os.listdir(FOLDER) if name != "__pycache__")
        self.assertIn("__init__.py", names)
        for name in names:
            self.assertRegex(name, r"^[a-z0-9_]+\.py$")
            with open(os.path.join(FOLDER, name), encoding="utf-8", newline="") as file:
                yield name, file.read()

    def test_characters_and_sizes(self):
        for name, text in self.files():
            self.assertIsNone(re.search(r"[^ -~\n]", text), name)
            lines = text.split("\n")
            self.assertLessEqual(len(lines) - 1, 399, name)
            for line in lines:
                self.assertLessEqual(len(line), 120, (name, line))

    def test_functions_are_short(self):
        for name, text in self.files():
            for node in ast.walk(ast.parse(text)):
                if isinstance(node, ast.FunctionDef):
                    self.assertLessEqual(node.end_lineno - node.lineno + 1, 40, (name, node.name))

    def test_module_level(self):
        for name, text in self.files():
            for node in ast.parse(text).body:
                self.assertTrue(is_docstring(node) or isinstance(node, TOP_LEVEL), (name, node.lineno))

    def test_imports(self):
        for name, text in self.files():
            for node in ast.walk(ast.parse(text)):
                if isinstance(node, ast.ImportFrom):
                    self.assertEqual(node.level, 0, name)
                    self.assertTrue(node.module in IMPORTS or node.module.startswith("ringheld."), (name, node.module))
                    self.assertNotIn("*", [alias.name for alias in node.names])

    def test_no_barred_statements(self):
        for name, text in self.files():
            for node in ast.walk(ast.parse(text)):
                self.assertNotIsInstance(node, BARRED, (name, getattr(node, "lineno", 0)))
                if isinstance(node, ast.Constant):
                    self.assertNotIsInstance(node.value, (float, complex), name)

    def test_no_warnings(self):
        for name, text in self.files():
            with warnings.catch_warnings():
                warnings.simplefilter("error")
                compile(text, name, "exec")
