"""The package's own files keep to the part of Python that the program is written in."""

import ast
import builtins
import re
import unittest
from pathlib import Path

PACKAGE = Path(__file__).resolve().parent.parent / "cogterms"

NODES = (
    ast.Module, ast.FunctionDef, ast.arguments, ast.arg, ast.Return, ast.Assign, ast.If, ast.While, ast.For,
    ast.Expr, ast.Call, ast.keyword, ast.Attribute, ast.Name, ast.Load, ast.Store, ast.Constant, ast.List,
    ast.Tuple, ast.Dict, ast.Subscript, ast.Slice, ast.Compare, ast.BoolOp, ast.BinOp, ast.UnaryOp,
    ast.And, ast.Or, ast.Not, ast.USub, ast.Add, ast.Sub, ast.Mult, ast.FloorDiv, ast.Mod,
    ast.Eq, ast.NotEq, ast.Lt, ast.LtE, ast.Gt, ast.GtE, ast.In, ast.NotIn)

METHODS = ("append", "extend")
PYTHONS_OWN = ("len", "abs", "min", "max", "range", "reversed")
WORDS = ("type", "typing", "enum", "Enum", "Flag", "Generic", "Protocol", "ABC", "elements", "register", "open", "input")


class FormTest(unittest.TestCase):

    def setUp(self):
        self.texts = {path.name: path.read_text("utf-8") for path in sorted(PACKAGE.glob("*.py"))}
        self.trees = {name: ast.parse(text) for name, text in self.texts.items()}

    def nodes(self):
        for name, tree in self.trees.items():
            for node in ast.walk(tree):
                yield name, node

    def test_files(self):
        found = sorted(path.name for path in PACKAGE.iterdir() if path.name != "__pycache__")
        self.assertEqual(found, ["__init__.py", "fractions.py"])

    def test_signs_and_sizes(self):
        for name, text in self.texts.items():
            self.assertIsNone(re.search("[^ -~\n]", text), name)
            rows = text.split("\n")
            self.assertLessEqual(len(rows), 400, name)
            self.assertLessEqual(max(len(row) for row in rows), 120, name)

    def test_words(self):
        for name, text in self.texts.items():
            for word in WORDS:
                self.assertIsNone(re.search(r"\b%s\b" % word, text), (name, word))

    def test_small_functions(self):
        for name, node in self.nodes():
            if isinstance(node, ast.FunctionDef):
                self.assertLessEqual(node.end_lineno - node.lineno + 1, 40, (name, node.name))

    def test_plain_statements_and_expressions(self):
        for name, node in self.nodes():
            self.assertIsInstance(node, NODES, (name, getattr(node, "lineno", None)))
            if isinstance(node, ast.Constant):
                self.assertIn(type(node.value), (int, str))
            if isinstance(node, ast.Assign):
                self.assertEqual(len(node.targets), 1, (name, node.lineno))
                self.assertIsInstance(node.targets[0], (ast.Name, ast.Subscript), (name, node.lineno))
            if isinstance(node, ast.Attribute):
                self.assertIn(node.attr, METHODS, (name, node.lineno))
            if isinstance(node, (ast.For, ast.While)):
                self.assertEqual(node.orelse, [], (name, node.lineno))

    def test_names(self):
        for name, tree in self.trees.items():
            every = list(ast.walk(tree))
            bound = [node.id for node in every if isinstance(node, ast.Name) and isinstance(node.ctx, ast.Store)]
            bound += [node.arg for node in every if isinstance(node, ast.arg)]
            bound += [node.name for node in every if isinstance(node, ast.FunctionDef)]
            for word in bound:
                self.assertNotIn(word, dir(builtins), name)
                self.assertFalse(word.startswith("_"), (name, word))
            for node in every:
                if isinstance(node, ast.Name) and isinstance(node.ctx, ast.Load):
                    self.assertTrue(node.id in bound or node.id in PYTHONS_OWN, (name, node.id, node.lineno))

    def test_top(self):
        for name, tree in self.trees.items():
            names = []
            for place, node in enumerate(tree.body):
                if isinstance(node, ast.FunctionDef):
                    names.append(node.name)
                elif isinstance(node, ast.Assign):
                    names.append(node.targets[0].id)
                    ast.literal_eval(node.value)
                else:
                    self.assertEqual(place, 0, name)
                    self.assertIsInstance(node, ast.Expr)
                    self.assertIsInstance(node.value, ast.Constant)
            self.assertEqual(len(names), len(set(names)), name)


if __name__ == "__main__":
    unittest.main()
