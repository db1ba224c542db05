"""That the package keeps to the part of Python it is written in, as far as that is seen by its form."""

import ast
import builtins
import re
import unittest
from pathlib import Path

PACKAGE = Path(__file__).resolve().parent.parent / "hiddenstates"
FILES = sorted(PACKAGE.rglob("*.py"))

ALLOWED = (
    ast.Module, ast.Expr, ast.ImportFrom, ast.alias, ast.FunctionDef, ast.ClassDef, ast.arguments, ast.arg,
    ast.Assign, ast.AugAssign, ast.If, ast.While, ast.For, ast.Return, ast.Break, ast.Continue, ast.Pass,
    ast.Raise, ast.Try, ast.ExceptHandler, ast.Constant, ast.List, ast.Tuple, ast.Dict, ast.Name,
    ast.expr_context, ast.BinOp, ast.UnaryOp, ast.BoolOp, ast.Compare, ast.operator, ast.unaryop, ast.boolop,
    ast.cmpop, ast.IfExp, ast.Call, ast.keyword, ast.Attribute, ast.Subscript, ast.Slice, ast.ListComp,
    ast.comprehension, ast.Lambda, ast.JoinedStr, ast.FormattedValue,
)
WORDS = (
    "type", "typing", "typing_extensions", "enum", "Enum", "IntEnum", "StrEnum", "Flag", "IntFlag", "Generic",
    "Protocol", "ABC", "ABCMeta", "namedtuple", "NamedTuple", "TypedDict", "TYPE_CHECKING", "abstractmethod",
)
PYTHONS_OWN = (
    "len", "range", "enumerate", "zip", "min", "max", "sum", "abs", "sorted", "reversed", "int", "str", "bool",
    "list", "tuple", "dict", "set", "frozenset", "isinstance", "ord", "repr", "any", "all", "divmod", "Exception",
    "ValueError", "KeyError", "IndexError", "LookupError", "ZeroDivisionError", "StopIteration",
)
METHODS = (
    "append", "clear", "copy", "count", "endswith", "extend", "find", "get", "index", "insert", "isalnum", "isalpha",
    "isdigit", "islower", "isspace", "isupper", "items", "join", "keys", "ljust", "lower", "lstrip", "partition",
    "pop", "remove", "replace", "reverse", "rfind", "rjust", "rpartition", "rsplit", "rstrip", "setdefault", "split",
    "splitlines", "startswith", "strip", "update", "upper", "values", "zfill", "bit_length",
)
METHODS_WITH_UNDERSCORES = ("__init__", "__eq__", "__repr__", "__str__", "__len__")


def read(path):
    """The file's text, and the tree of its forms."""
    text = path.read_text(encoding="utf-8")
    return text, ast.parse(text)


def bound_names(tree):
    """Every name that the file gives a meaning to."""
    for node in ast.walk(tree):
        if isinstance(node, (ast.FunctionDef, ast.ClassDef)):
            yield node.name
        elif isinstance(node, ast.arg):
            yield node.arg
        elif isinstance(node, ast.alias):
            yield node.asname or node.name
        elif isinstance(node, ast.Name) and isinstance(node.ctx, ast.Store):
            yield node.id
        elif isinstance(node, ast.Attribute) and isinstance(node.ctx, ast.Store):
            yield node.attr


class Language(unittest.TestCase):
    def test_only_plain_files(self):
        self.assertIn(PACKAGE / "models.py", FILES)
        for path in PACKAGE.rglob("*"):
            if "__pycache__" not in path.parts:
                with self.subTest(file=path.name):
                    self.assertRegex(path.name, r"\A([a-z][a-z0-9_]*|__init__|__main__)\.py\Z")

    def test_signs_and_size(self):
        for path in FILES:
            with self.subTest(file=path.name):
                text, tree = read(path)
                self.assertRegex(text, r"\A[ -~\n]*\Z")
                rows = text.split("\n")
                self.assertLessEqual(len(rows), 401)
                self.assertLessEqual(max(len(line) for line in rows), 120)
                for node in ast.walk(tree):
                    if isinstance(node, ast.FunctionDef):
                        self.assertLessEqual(node.end_lineno - node.lineno + 1, 40, node.name)

    def test_words_that_stand_nowhere(self):
        for path in FILES:
            with self.subTest(file=path.name):
                text, tree = read(path)
                self.assertEqual([word for word in WORDS if re.search(rf"\b{word}\b", text)], [])
                self.assertNotRegex(text, "dataclass|overload|contextmanager")

    def test_forms(self):
        for path in FILES:
            with self.subTest(file=path.name):
                text, tree = read(path)
                for node in ast.walk(tree):
                    self.assertIsInstance(node, ALLOWED)
                    self.assertNotIsInstance(node, (ast.Div, ast.MatMult))
                    if isinstance(node, ast.Constant):
                        self.assertNotIsInstance(node.value, (float, complex, bytes))
                    if isinstance(node, (ast.FunctionDef, ast.ClassDef)):
                        self.assertEqual(node.decorator_list, [])
                    if isinstance(node, (ast.For, ast.While)):
                        self.assertEqual(node.orelse, [])
                    if isinstance(node, ast.Try):
                        self.assertEqual(node.finalbody, [])
                    if isinstance(node, ast.Assign):
                        self.assertEqual(len(node.targets), 1)

    def test_imports(self):
        for path in FILES:
            with self.subTest(file=path.name):
                text, tree = read(path)
                for node in ast.walk(tree):
                    if isinstance(node, ast.ImportFrom):
                        self.assertEqual(node.level, 0)
                        self.assertRegex(node.module, r"\Ahiddenstates\.[a-z_]+\Z")
                        self.assertIn(node, tree.body)

    def test_no_name_has_two_meanings(self):
        for path in FILES:
            with self.subTest(file=path.name):
                text, tree = read(path)
                tops = [node.name for node in tree.body if isinstance(node, (ast.FunctionDef, ast.ClassDef))]
                tops += [found.name for node in tree.body if isinstance(node, ast.ImportFrom) for found in node.names]
                tops += [node.targets[0].id for node in tree.body if isinstance(node, ast.Assign)]
                self.assertEqual(sorted(tops), sorted(set(tops)))
                inside = [node.arg for node in ast.walk(tree) if isinstance(node, ast.arg)]
                for node in tree.body:
                    if isinstance(node, (ast.FunctionDef, ast.ClassDef)):
                        inside += [found.id for found in ast.walk(node)
                                   if isinstance(found, ast.Name) and isinstance(found.ctx, ast.Store)]
                self.assertEqual(sorted(set(inside) & set(tops)), [])
                self.assertEqual(sorted(set(tops + inside) & set(dir(builtins))), [])

    def test_methods(self):
        own = [node.name for path in FILES for node in ast.walk(read(path)[1]) if isinstance(node, ast.FunctionDef)]
        for path in FILES:
            with self.subTest(file=path.name):
                for node in ast.walk(read(path)[1]):
                    if isinstance(node, ast.Call) and isinstance(node.func, ast.Attribute):
                        self.assertIn(node.func.attr, tuple(own) + METHODS)

    def test_powers(self):
        for path in FILES:
            with self.subTest(file=path.name):
                for node in ast.walk(read(path)[1]):
                    if isinstance(node, ast.BinOp) and isinstance(node.op, ast.Pow):
                        self.assertIsInstance(node.right, ast.Constant)

    def test_names(self):
        for path in FILES:
            with self.subTest(file=path.name):
                text, tree = read(path)
                bound = list(bound_names(tree))
                for name in bound:
                    if name not in METHODS_WITH_UNDERSCORES:
                        self.assertRegex(name, r"\A[A-Za-z][A-Za-z0-9_]*\Z")
                for node in ast.walk(tree):
                    if isinstance(node, ast.Name) and isinstance(node.ctx, ast.Load):
                        self.assertIn(node.id, tuple(bound) + PYTHONS_OWN)


if __name__ == "__main__":
    unittest.main()
