"""That the package keeps to the part of Python that it is held to, as far as a short look can tell."""

import ast
import builtins
import pathlib
import re
import unittest

PACKAGE = pathlib.Path(__file__).resolve().parent.parent / "rerun"

NODES = {
    "Module", "ImportFrom", "alias", "FunctionDef", "arguments", "arg", "ClassDef", "Assign", "AugAssign", "If",
    "While", "For", "Return", "Break", "Continue", "Pass", "Raise", "Try", "ExceptHandler", "Expr", "Constant", "List",
    "Tuple", "Dict", "BinOp", "UnaryOp", "BoolOp", "Compare", "IfExp", "Call", "Attribute", "Subscript", "Slice",
    "ListComp", "comprehension", "Name", "Load", "Store", "Add", "Sub", "Mult", "FloorDiv", "Mod", "And", "Or", "Not",
    "USub", "Eq", "NotEq", "Lt", "LtE", "Gt", "GtE", "Is", "IsNot", "In", "NotIn", "BitAnd", "BitOr", "LShift",
    "RShift",
}
OWN_NAMES = {
    "len", "range", "enumerate", "zip", "min", "max", "sum", "abs", "sorted", "reversed", "int", "str", "bool", "list",
    "tuple", "dict", "isinstance", "any", "all", "divmod", "ValueError", "KeyError",
}
METHODS = {
    "append", "clear", "copy", "count", "extend", "get", "index", "insert", "items", "keys", "pop", "remove", "reverse",
    "setdefault", "update", "values",
}
BANNED_WORDS = r"\b(type|typing|enum|Enum|Flag|Generic|Protocol|ABC|namedtuple|open|input|register|elements|mro|sys)\b"


def files():
    return sorted(path for path in PACKAGE.rglob("*") if path.is_file() and "__pycache__" not in path.parts)


def parsed():
    return [(path, ast.parse(path.read_text())) for path in files()]


class Language(unittest.TestCase):
    def test_only_plain_files(self):
        for path in files():
            self.assertRegex(path.name, r"^([a-z][a-z0-9_]*|__init__)\.py$")
            self.assertEqual(path.parent, PACKAGE)

    def test_signs_and_sizes(self):
        for path in files():
            text = path.read_text()
            self.assertRegex(text, r"\A[ -~\n]*\Z", path)
            self.assertLessEqual(text.count("\n"), 400)
            self.assertLessEqual(max(map(len, text.split("\n"))), 120)

    def test_small_functions(self):
        for path, tree in parsed():
            for node in ast.walk(tree):
                if isinstance(node, ast.FunctionDef):
                    self.assertLessEqual(node.end_lineno - node.lineno + 1, 40, node.name)
                    self.assertFalse(node.decorator_list or node.returns or node.args.vararg or node.args.kwarg)

    def test_only_known_forms(self):
        for path, tree in parsed():
            for node in ast.walk(tree):
                self.assertIn(node.__class__.__name__, NODES, (path.name, getattr(node, "lineno", 0)))
                if isinstance(node, ast.Assign):
                    self.assertEqual(len(node.targets), 1)
                    self.assertIsInstance(node.targets[0], (ast.Name, ast.Attribute, ast.Subscript))

    def test_is_stands_beside_none_alone(self):
        for path, tree in parsed():
            for node in ast.walk(tree):
                if isinstance(node, ast.Compare) and isinstance(node.ops[0], (ast.Is, ast.IsNot)):
                    self.assertIsNone(node.comparators[0].value)

    def test_names(self):
        for path, tree in parsed():
            for node in ast.walk(tree):
                if isinstance(node, ast.Name):
                    self.assertFalse(node.id.startswith("_"), node.id)
                    if hasattr(builtins, node.id):
                        self.assertIn(node.id, OWN_NAMES)
                        self.assertIsInstance(node.ctx, ast.Load)
                if isinstance(node, (ast.FunctionDef, ast.ClassDef)):
                    self.assertFalse(node.name != "__init__" and hasattr(builtins, node.name), node.name)
                if isinstance(node, ast.arg):
                    self.assertFalse(hasattr(builtins, node.arg), node.arg)

    def test_attributes(self):
        own = {node.attr for path, tree in parsed() for node in ast.walk(tree)
               if isinstance(node, ast.Attribute) and isinstance(node.ctx, ast.Store)}
        foreign = set().union(*[dir(value) for value in ("", 0, [], {}, set(), b"", ())])
        self.assertFalse(own & foreign)
        for path, tree in parsed():
            for node in ast.walk(tree):
                if isinstance(node, ast.Attribute):
                    self.assertIn(node.attr, own | METHODS)

    def test_imports_from_the_package_and_in_no_ring(self):
        draws = {}
        for path, tree in parsed():
            found = [node for node in tree.body if isinstance(node, ast.ImportFrom)]
            self.assertEqual(len(found), sum(isinstance(node, ast.ImportFrom) for node in ast.walk(tree)))
            for node in found:
                self.assertRegex(node.module, r"^rerun\.[a-z]+$")
                self.assertEqual(node.level, 0)
                self.assertFalse([alias for alias in node.names if alias.asname or alias.name == "*"])
            draws["rerun." + path.stem] = {node.module for node in found}
        while draws:
            ends = [module for module, drawn in draws.items() if not drawn & set(draws)]
            self.assertTrue(ends, draws)
            for module in ends:
                draws.pop(module)

    def test_locals_are_not_called_like_what_the_file_has_at_its_top(self):
        for path, tree in parsed():
            top = {alias.name for node in tree.body if isinstance(node, ast.ImportFrom) for alias in node.names}
            tops = [node.name for node in tree.body if isinstance(node, (ast.FunctionDef, ast.ClassDef))]
            tops += [node.targets[0].id for node in tree.body if isinstance(node, ast.Assign)]
            self.assertEqual(len(tops), len(set(tops)))
            self.assertFalse(top & set(tops))
            for function in [node for node in ast.walk(tree) if isinstance(node, ast.FunctionDef)]:
                inside = {node.arg for node in ast.walk(function) if isinstance(node, ast.arg)}
                inside |= {node.id for node in ast.walk(function)
                           if isinstance(node, ast.Name) and isinstance(node.ctx, ast.Store)}
                self.assertFalse(inside & (top | set(tops)), path.name)

    def test_words_that_stand_nowhere(self):
        for path in files():
            self.assertIsNone(re.search(BANNED_WORDS, re.sub(r"#.*", "", path.read_text())), path.name)
            self.assertIsNone(re.search(r"\b(type|typing|enum|Enum|Flag|Generic|Protocol|ABC)\b", path.read_text()))
