"""The form of the package's files: the rules that can be counted or looked up."""

import ast
import builtins
import re
import unittest
from pathlib import Path

PACKAGE = Path(__file__).resolve().parent.parent / "hungmobile"
FILES = sorted(PACKAGE.glob("*.py"))

NODES = set("""
    Module ImportFrom alias FunctionDef arguments arg ClassDef Lambda Assign AugAssign If While For Return Break
    Continue Pass Raise Try ExceptHandler Expr Name Attribute Load Store Constant List Tuple Dict Subscript Slice Call
    keyword BinOp UnaryOp BoolOp Compare IfExp ListComp comprehension JoinedStr FormattedValue And Or Not USub
    Add Sub Mult FloorDiv Mod Pow BitAnd BitOr BitXor LShift RShift Invert
    Eq NotEq Lt LtE Gt GtE Is IsNot In NotIn
""".split())

BUILTINS = set("""
    len range enumerate zip min max sum abs sorted reversed int str bool list tuple dict set frozenset isinstance ord
    repr any all divmod Exception ValueError TypeError KeyError IndexError LookupError ZeroDivisionError
    ArithmeticError OverflowError RuntimeError NotImplementedError AttributeError StopIteration
""".split())

METHODS = set("""
    append clear copy count endswith extend find get index insert isalnum isalpha isdigit islower isspace isupper items
    join keys ljust lower lstrip partition pop remove replace reverse rfind rjust rpartition rsplit rstrip setdefault
    split splitlines startswith strip update upper values zfill bit_length
""".split())


def names_bound(tree):
    """Every name that a file gives to something, its attributes among them."""
    bound = set()
    for node in ast.walk(tree):
        if isinstance(node, (ast.FunctionDef, ast.ClassDef)):
            bound.add(node.name)
        elif isinstance(node, ast.arg):
            bound.add(node.arg)
        elif isinstance(node, (ast.Name, ast.Attribute)) and isinstance(node.ctx, ast.Store):
            bound.add(node.id if isinstance(node, ast.Name) else node.attr)
        elif isinstance(node, ast.alias):
            bound.add(node.name)
    return bound


class Form(unittest.TestCase):

    def setUp(self):
        self.trees = {path.name: ast.parse(path.read_text(encoding="ascii")) for path in FILES}
        self.bound = set().union(*[names_bound(tree) for tree in self.trees.values()])

    def test_nothing_else_lies_in_the_package(self):
        lying = [path.name for path in PACKAGE.iterdir() if path.name != "__pycache__"]
        for name in lying:
            self.assertRegex(name, r"^(__init__|[a-z][a-z0-9_]*)\.py$")
        self.assertIn("__init__.py", lying)
        self.assertIn("mobile.py", lying)

    def test_sizes_and_signs(self):
        for path in FILES:
            rows = path.read_text(encoding="ascii").split("\n")
            self.assertLessEqual(len(rows), 400, path.name)
            for row in rows:
                self.assertRegex(row, r"^[ -~]{0,120}$", path.name)

    def test_no_function_is_longer_than_forty_lines(self):
        for tree in self.trees.values():
            for node in ast.walk(tree):
                if isinstance(node, ast.FunctionDef):
                    self.assertLessEqual(node.end_lineno - node.lineno + 1, 40, node.name)

    def test_only_the_plain_parts_of_the_language(self):
        for name, tree in self.trees.items():
            for node in ast.walk(tree):
                where = f"{name}: {ast.unparse(node)}"
                self.assertIn(type(node).__name__, NODES, where)
                if isinstance(node, ast.Constant):
                    self.assertIn(type(node.value), (int, str, bool, type(None)), where)
                if isinstance(node, ast.Assign):
                    self.assertEqual(len(node.targets), 1, where)
                if isinstance(node, ast.Attribute) and isinstance(node.ctx, ast.Store):
                    self.assertIsInstance(node.value, ast.Name, where)
                if isinstance(node, (ast.For, ast.While)):
                    self.assertEqual(node.orelse, [], where)
                if isinstance(node, (ast.FunctionDef, ast.ClassDef)):
                    self.assertEqual(node.decorator_list, [], where)

    def test_imports_are_of_the_package_alone(self):
        for name, tree in self.trees.items():
            for node in ast.walk(tree):
                if isinstance(node, ast.ImportFrom):
                    self.assertEqual(node.level, 0, name)
                    self.assertRegex(node.module, r"^hungmobile\.[a-z][a-z0-9_]*$", name)

    def test_names(self):
        for name in self.bound:
            self.assertTrue(name == "__init__" or re.fullmatch("[A-Za-z][A-Za-z0-9_]*", name), name)
            self.assertNotIn(name, vars(builtins))
        for tree in self.trees.values():
            for node in ast.walk(tree):
                if isinstance(node, ast.Name):
                    self.assertIn(node.id, self.bound | BUILTINS)
                if isinstance(node, ast.Attribute):
                    self.assertIn(node.attr, self.bound | METHODS)


if __name__ == "__main__":
    unittest.main()
