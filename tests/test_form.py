"""The package's files keep to the part of the language that they are held to, as far as it's quickly seen."""

import ast
import re
import unittest
from pathlib import Path

PACKAGE = Path(__file__).resolve().parent.parent / "tipboard"
FILES = sorted(PACKAGE.rglob("*.py"))

NODES = """Module Expr Constant ImportFrom alias FunctionDef ClassDef arguments arg Assign AugAssign If While For
Return Break Continue Pass Raise Call Name Load Store Attribute Subscript Slice List Tuple Dict ListComp comprehension
BinOp UnaryOp BoolOp Compare IfExp JoinedStr FormattedValue Add Sub Mult FloorDiv Mod USub Not And Or
Eq NotEq Lt LtE Gt GtE Is IsNot In NotIn keyword Lambda""".split()
BUILT_IN = "len range enumerate zip min max sum abs sorted list tuple dict set any all".split()
WORDS = re.compile(r"\b(type|typing|enum|Enum|Generic|Protocol|ABC|namedtuple|register|mro|elements|open|input)\b")


class Form(unittest.TestCase):
    def test_there_are_files(self):
        self.assertIn(PACKAGE / "beam.py", FILES)
        self.assertIn(PACKAGE / "__init__.py", FILES)

    def test_rows_and_signs(self):
        for path in FILES:
            text = path.read_text(encoding="utf-8")
            rows = text.split("\n")
            self.assertLessEqual(len(rows), 401, path)
            self.assertLessEqual(max(len(row) for row in rows), 120, path)
            self.assertIsNone(re.search(r"[^ -~\n]", text), path)
            self.assertIsNone(WORDS.search(text), path)

    def test_nodes_and_names(self):
        for path in FILES:
            tree = ast.parse(path.read_text(encoding="utf-8"))
            bound = names_bound(tree)
            for node in ast.walk(tree):
                where = (path.name, getattr(node, "lineno", 0))
                self.assertIn(node.__class__.__name__, NODES, where)
                if isinstance(node, ast.FunctionDef):
                    self.assertLessEqual(node.end_lineno - node.lineno + 1, 40, where)
                    self.assertEqual(node.decorator_list, [], where)
                if isinstance(node, ast.ImportFrom):
                    self.assertTrue(node.level == 0 and node.module.startswith("tipboard."), where)
                if isinstance(node, ast.Name) and isinstance(node.ctx, ast.Load):
                    self.assertIn(node.id, bound + BUILT_IN, where)
                if isinstance(node, ast.Assign):
                    self.assertEqual(len(node.targets), 1, where)

    def test_a_set_is_only_counted_or_put_in_order(self):
        for path in FILES:
            nodes = list(ast.walk(ast.parse(path.read_text(encoding="utf-8"))))
            named = [node for node in nodes if isinstance(node, ast.Name) and node.id == "set"]
            within = [node.args[0].func for node in nodes if is_call_of(node, ("len", "sorted"))
                      and node.args and is_call_of(node.args[0], ("set",))]
            self.assertEqual([node.lineno for node in named if node not in within], [], path)

    def test_no_name_of_pythons_own_is_bound(self):
        own = dir(__builtins__) if not isinstance(__builtins__, dict) else list(__builtins__)
        for path in FILES:
            for name in names_bound(ast.parse(path.read_text(encoding="utf-8"))):
                self.assertNotIn(name, own, path)
                self.assertTrue(name == "__init__" or re.fullmatch(r"[A-Za-z][A-Za-z0-9_]*", name), (path, name))


def is_call_of(node, names):
    return isinstance(node, ast.Call) and isinstance(node.func, ast.Name) and node.func.id in names


def names_bound(tree):
    found = []
    for node in ast.walk(tree):
        if isinstance(node, (ast.FunctionDef, ast.ClassDef)):
            found.append(node.name)
        if isinstance(node, ast.arg):
            found.append(node.arg)
        if isinstance(node, ast.alias):
            found.append(node.name)
        if isinstance(node, ast.Name) and isinstance(node.ctx, ast.Store):
            found.append(node.id)
    return found


if __name__ == "__main__":
    unittest.main()
