"""Rules of the language that can be read off the files of the package without judgement."""

import ast
import builtins
import os
import re
import unittest
import warnings

import ringheld

FOLDER = os.path.dirname(ringheld.__file__)
IMPORTS = {"heapq", "math", "itertools", "collections", "__future__"}
TOP_LEVEL = (ast.ImportFrom, ast.FunctionDef, ast.ClassDef, ast.Assign)
BARRED = (ast.AsyncFunctionDef, ast.Await, ast.Import, ast.Div)


def is_docstring(node):
    return isinstance(node, ast.Expr) and isinstance(node.value, ast.Constant) and isinstance(node.value.value, str)


def names_bound(function):
    """Return the names of the parameters and the local variables of a function."""
    arguments = function.args.posonlyargs + function.args.args + function.args.kwonlyargs
    stored = [node.id for node in ast.walk(function) if isinstance(node, ast.Name) and isinstance(node.ctx, ast.Store)]
    return {argument.arg for argument in arguments} | set(stored)


class Language(unittest.TestCase):
    def files(self):
        names = sorted(name for name in os.listdir(FOLDER) if name != "__pycache__")
        self.assertIn("__init__.py", names)
        for name in names:
            self.assertRegex(name, r"^[a-z0-9_]+\.py$")
            with open(os.path.join(FOLDER, name), encoding="utf-8", newline="") as file:
                yield name, file.read()

    def test_characters_and_sizes(self):
        for name, text in self.files():
            self.assertIsNone(re.search(r"[^ -~\n]", text), name)
            lines = text.split("\n")
            self.assertLessEqual(len(lines) - 1, 399, name)
            for line in lines:
                self.assertLessEqual(len(line), 120, (name, line))

    def test_functions_are_short(self):
        for name, text in self.files():
            for node in ast.walk(ast.parse(text)):
                if isinstance(node, ast.FunctionDef):
                    self.assertLessEqual(node.end_lineno - node.lineno + 1, 40, (name, node.name))

    def test_module_level(self):
        for name, text in self.files():
            for node in ast.parse(text).body:
                self.assertTrue(is_docstring(node) or isinstance(node, TOP_LEVEL), (name, node.lineno))

    def test_imports(self):
        for name, text in self.files():
            for node in ast.walk(ast.parse(text)):
                if isinstance(node, ast.ImportFrom):
                    self.assertEqual(node.level, 0, name)
                    self.assertTrue(node.module in IMPORTS or node.module.startswith("ringheld."), (name, node.module))
                    self.assertNotIn("*", [alias.name for alias in node.names])

    def test_imports_are_used_and_are_no_variables(self):
        for name, text in self.files():
            tree = ast.parse(text)
            imported = {alias.name for node in tree.body if isinstance(node, ast.ImportFrom) for alias in node.names}
            classes = {node.name for node in tree.body if isinstance(node, ast.ClassDef)}
            read = {node.id for node in ast.walk(tree) if isinstance(node, ast.Name) and isinstance(node.ctx, ast.Load)}
            self.assertEqual(imported - read, set(), name)
            for node in ast.walk(tree):
                if isinstance(node, ast.FunctionDef):
                    # Running examples gives the name _ to the builtins, too.
                    barred = imported | classes | set(dir(builtins)) - {"_"}
                    self.assertEqual(names_bound(node) & barred, set(), (name, node.name))

    def test_no_name_is_a_method_and_an_attribute(self):
        methods, attributes = set(), set()
        for _, text in self.files():
            for node in ast.walk(ast.parse(text)):
                if isinstance(node, ast.ClassDef):
                    methods |= {part.name for part in node.body if isinstance(part, ast.FunctionDef)}
                if isinstance(node, ast.Attribute) and isinstance(node.ctx, ast.Store):
                    attributes.add(node.attr)
        self.assertEqual(methods & attributes, set())
        for kind in (str, int, list, tuple, dict, set, bytes):
            named = {name for name in methods | attributes if not name.startswith("__")}
            self.assertEqual(named & set(dir(kind)), set())

    def test_no_barred_statements(self):
        for name, text in self.files():
            for node in ast.walk(ast.parse(text)):
                self.assertNotIsInstance(node, BARRED, (name, getattr(node, "lineno", 0)))
                if isinstance(node, ast.Constant):
                    self.assertNotIsInstance(node.value, (float, complex), name)

    def test_no_warnings(self):
        for name, text in self.files():
            with warnings.catch_warnings():
                warnings.simplefilter("error")
                compile(text, name, "exec")
