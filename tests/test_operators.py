"""Operators and properties change nothing, nor does what they run (rules L5 and L28 of the language).

Calls are followed by the name that is called, whatever object it is called on. A function may change
only what it made itself: a list or dict in a local variable, or an attribute of an object that it made.
"""

import ast
import os
import unittest

import ringheld

FOLDER = os.path.dirname(ringheld.__file__)
CHANGING = {"append", "clear", "extend", "insert", "pop", "remove", "reverse", "setdefault", "update", "sort",
            "add", "discard"}
# These may change something: they are no operators, or change their own object by what they are.
FREE = {"__init__", "__call__", "__enter__", "__exit__", "__setitem__"}
MAKERS = {"list", "dict", "sorted"}
MADE = (ast.List, ast.Dict, ast.ListComp, ast.DictComp)


class Package:
    """The functions and classes of a package, given as a dict from file names to texts."""

    def __init__(self, texts):
        self.functions = {}
        self.classes = {}
        self.roots = []
        for name in sorted(texts):
            for node in ast.walk(ast.parse(texts[name])):
                if isinstance(node, ast.FunctionDef):
                    self.functions.setdefault(node.name, []).append((name, node))
                if isinstance(node, ast.ClassDef):
                    self.add_class(name, node)

    def add_class(self, name, node):
        methods = [part for part in node.body if isinstance(part, ast.FunctionDef)]
        self.classes[node.name] = [(name, method) for method in methods if method.name == "__init__"]
        self.roots += [(name, method) for method in methods if is_root(method)]

    def run_by(self, function):
        """Return the functions that may be run by the calls within a function."""
        names = [called_name(node) for node in ast.walk(function) if isinstance(node, ast.Call)]
        return [found for name in names for found in self.functions.get(name, []) + self.classes.get(name, [])]

    def reached(self):
        reached = list(self.roots)
        for _, function in reached:
            reached.extend([found for found in self.run_by(function) if found not in reached])
        return reached

    def changes(self):
        """Return the rows at which an operator or property may change something that it did not make."""
        return sorted({(name, node.lineno) for name, function in self.reached()
                       for node in ast.walk(function) if self.is_change(function, node)})

    def is_change(self, function, node):
        if isinstance(node, ast.Call) and isinstance(node.func, ast.Attribute) and node.func.attr in CHANGING:
            return not made_here(function, node.func.value, is_made)
        if not isinstance(getattr(node, "ctx", None), (ast.Store, ast.Del)):
            return False
        if isinstance(node, ast.Subscript):
            return not made_here(function, node.value, is_made)
        if isinstance(node, ast.Attribute) and not (function.name == "__init__" and is_self(node.value)):
            return not made_here(function, node.value, lambda value: called_name(value) in self.classes)
        return False


def is_root(method):
    named = method.name.startswith("__") and method.name not in FREE and not method.name.startswith("__i")
    decorators = [node.id for node in method.decorator_list if isinstance(node, ast.Name)]
    return named or method.name == "__invert__" or "property" in decorators


def is_self(node):
    return isinstance(node, ast.Name) and node.id == "self"


def called_name(node):
    """Return the name that a call calls, or None."""
    if not isinstance(node, ast.Call):
        return None
    return getattr(node.func, "id", getattr(node.func, "attr", None))


def is_made(value):
    return isinstance(value, MADE) or called_name(value) in MAKERS


def made_here(function, node, is_making):
    """Return True if the node is a local variable that the function assigns only what it makes."""
    if not isinstance(node, ast.Name):
        return False
    bound = [part for part in ast.walk(function)
             if isinstance(part, ast.Name) and part.id == node.id and not isinstance(part.ctx, ast.Load)]
    plain = [part.value for part in ast.walk(function) if isinstance(part, ast.Assign)
             and [target.id for target in part.targets if isinstance(target, ast.Name)] == [node.id]]
    return len(bound) == len(plain) > 0 and all([is_making(value) for value in plain])


def changes_of(*rows):
    return Package({"box.py": "\n".join(rows)}).changes()


class Operators(unittest.TestCase):
    def test_the_package(self):
        texts = {}
        for name in os.listdir(FOLDER):
            if name.endswith(".py"):
                with open(os.path.join(FOLDER, name), encoding="utf-8") as file:
                    texts[name] = file.read()
        package = Package(texts)
        self.assertIn("__or__", [method.name for _, method in package.roots])
        self.assertEqual(package.changes(), [])

    def test_changes_are_found(self):
        head = ("class Box:", "    def __init__(self, rows):", "        self.rows = fill(rows)")
        operator = ("    def __or__(self, other):", "        return Box(other.rows)")
        for row in ("rows.append(1)", "rows[0] = 1", "rows.first = 1", "rows[0].append(1)", "del rows[0]",
                    "found = {}; found.setdefault(1, []).append(1)", "found = rows; found.append(1)",
                    "found = []; found = rows; found.append(1)", "self.rows = 1"):
            fill = ("def fill(rows):", "    " + row)
            self.assertEqual(changes_of(*head, *operator, *fill), [("box.py", 7)], row)
            self.assertEqual(changes_of(*head, *fill), [], row)

    def test_properties_are_looked_at(self):
        head = ("class Box:", "    @property", "    def many(self):")
        self.assertEqual(changes_of(*head, "        self.rows = []"), [("box.py", 4)])
        self.assertEqual(changes_of(*head, "        return self.rows"), [])

    def test_what_is_made_may_be_changed(self):
        head = ("class Box:", "    def __or__(self, other):", "        box = Box()", "        rows = list(other.rows)")
        body = ("rows.append(1)", "rows[0] = 1", "box.rows = rows", "return box")
        self.assertEqual(changes_of(*head, *["        " + row for row in body]), [])
