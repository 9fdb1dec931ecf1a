"""The form of the program's own files: a small part of Python, nothing read, printed or imported from outside."""

import ast
import builtins
import os
import re
import unittest

ROOT = os.path.dirname(os.path.dirname(os.path.abspath(__file__)))
PACKAGE = os.path.join(ROOT, "keptrecords")

STATEMENTS = (ast.FunctionDef, ast.ClassDef, ast.ImportFrom, ast.Assign, ast.AugAssign, ast.If, ast.While, ast.For,
              ast.Return, ast.Break, ast.Continue, ast.Pass, ast.Expr)
EXPRESSIONS = (ast.Constant, ast.Name, ast.Attribute, ast.Subscript, ast.Slice, ast.Call, ast.BinOp, ast.UnaryOp,
               ast.BoolOp, ast.Compare, ast.IfExp, ast.List, ast.Tuple, ast.Dict, ast.ListComp, ast.JoinedStr,
               ast.FormattedValue)
BUILT_IN = ("len", "range", "enumerate", "zip", "min", "max", "str", "int", "ord")
METHODS = ("append", "extend", "get", "isdigit", "items", "join", "pop", "split", "startswith", "values")
NOWHERE = ("type", "typing", "enum", "Enum", "Flag", "Generic", "Protocol", "ABC", "namedtuple", "dataclass", "overload")


def files():
    """Each file's name, its text and its tree."""
    found = []
    for name in sorted(os.listdir(PACKAGE)):
        if name != "__pycache__":
            with open(os.path.join(PACKAGE, name), encoding="utf-8") as file:
                text = file.read()
            found.append((name, text, ast.parse(text)))
    return found


def bound_names(tree):
    names = {alias.name for node in ast.walk(tree) if isinstance(node, ast.ImportFrom) for alias in node.names}
    for node in ast.walk(tree):
        if isinstance(node, (ast.FunctionDef, ast.ClassDef)):
            names.add(node.name)
        if isinstance(node, ast.arg):
            names.add(node.arg)
        if isinstance(node, ast.Name) and isinstance(node.ctx, ast.Store):
            names.add(node.id)
    return names


class Form(unittest.TestCase):
    def test_files(self):
        for name, text, tree in files():
            self.assertRegex(name, r"^[a-z_]+\.py$")
            self.assertLess(len(text.splitlines()), 400, name)
            self.assertRegex(text, r"\A[\n -~]*\Z", name)
            for line in text.splitlines():
                self.assertLessEqual(len(line), 120, (name, line))
            for word in NOWHERE:
                self.assertIsNone(re.search(rf"\b{word}\b", text), (name, word))

    def test_imports_are_the_programs_own(self):
        drawn = {}
        for name, text, tree in files():
            drawn[name[:-3]] = []
            for node in ast.walk(tree):
                self.assertNotIsInstance(node, ast.Import, name)
                if isinstance(node, ast.ImportFrom):
                    self.assertEqual((node.level, node.module.split(".")[0]), (0, "keptrecords"), name)
                    drawn[name[:-3]].append(node.module.split(".")[1])
        while drawn:
            free = [name for name in drawn if not any(other in drawn for other in drawn[name])]
            self.assertTrue(free, "files draw from one another")
            for name in free:
                drawn.pop(name)

    def test_statements_and_expressions(self):
        for name, text, tree in files():
            for node in ast.walk(tree):
                place = (name, getattr(node, "lineno", 0))
                if isinstance(node, ast.stmt):
                    self.assertIsInstance(node, STATEMENTS, place)
                if isinstance(node, ast.expr):
                    self.assertIsInstance(node, EXPRESSIONS, place)
                if isinstance(node, ast.Constant):
                    self.assertIsInstance(node.value, (int, str, type(None)), place)
                    self.assertFalse(isinstance(node.value, str) and "%" in node.value, place)
                if isinstance(node, ast.Assign):
                    self.assertEqual(len(node.targets), 1, place)
                    self.assertNotIsInstance(node.targets[0], (ast.Tuple, ast.List), place)
                if isinstance(node, ast.FunctionDef):
                    self.assertLessEqual(node.end_lineno - node.lineno + 1, 40, place)
                    self.assertEqual((node.args.vararg, node.args.kwarg, node.args.defaults, node.decorator_list),
                                     (None, None, [], []), place)

    def test_names(self):
        for name, text, tree in files():
            bound = bound_names(tree)
            self.assertEqual(bound & set(dir(builtins)), set(), name)
            for node in ast.walk(tree):
                if isinstance(node, ast.Name):
                    self.assertTrue(node.id in bound or node.id in BUILT_IN, (name, node.id))
                if isinstance(node, ast.Call) and isinstance(node.func, ast.Attribute):
                    self.assertIn(node.func.attr, METHODS, name)

    def test_the_interface_is_where_it_is_told(self):
        for name, text, tree in files():
            tops = [node.name for node in tree.body if isinstance(node, (ast.FunctionDef, ast.ClassDef))]
            self.assertEqual("answers" in tops, name == "house.py")
            if name == "house.py":
                told = [node for node in tree.body if isinstance(node, ast.FunctionDef) and node.name == "answers"][0]
                self.assertEqual([arg.arg for arg in told.args.args], ["calls"])


if __name__ == "__main__":
    unittest.main()
