"""The form of the package's own files, as far as it can be seen without running them."""

import ast
import builtins
import re
import unittest
from pathlib import Path

PACKAGE = Path(__file__).resolve().parent.parent / "orderpolls"

NODES = (
    "Module Expr Assign AugAssign If While For Return Break Continue Pass Raise Try ExceptHandler FunctionDef ClassDef "
    "ImportFrom alias arguments arg Constant List Tuple Dict Name Load Store BinOp Add Sub Mult FloorDiv Mod Pow BitAnd "
    "BitOr BitXor LShift RShift UnaryOp USub Not Invert BoolOp And Or Compare Eq NotEq Lt LtE Gt GtE In NotIn Is IsNot "
    "IfExp Call keyword Attribute Subscript Slice ListComp comprehension JoinedStr FormattedValue Lambda"
).split()

ALLOWED = (
    "len range enumerate zip min max sum abs sorted reversed int str bool list tuple dict set frozenset isinstance ord "
    "repr any all divmod Exception ValueError TypeError KeyError IndexError LookupError ZeroDivisionError "
    "ArithmeticError OverflowError RuntimeError NotImplementedError AttributeError StopIteration"
).split()

METHODS = (
    "append clear copy count endswith extend find get index insert isalnum isalpha isdigit islower isspace isupper items "
    "join keys ljust lower lstrip partition pop remove replace reverse rfind rjust rpartition rsplit rstrip setdefault "
    "split splitlines startswith strip update upper values zfill bit_length"
).split()

VALUES = "count index title find get join lower upper split strip copy add".split()

WORDS = re.compile(
    r"\b(type|typing|typing_extensions|enum|Enum|IntEnum|StrEnum|Flag|IntFlag|Generic|Protocol|ABC|ABCMeta|namedtuple"
    r"|NamedTuple|TypedDict|TYPE_CHECKING|abstractmethod)\b|dataclass|overload|contextmanager"
)

TOP = (ast.Expr, ast.ImportFrom, ast.FunctionDef, ast.ClassDef, ast.Assign)


def package_files():
    return sorted(path for path in PACKAGE.rglob("*") if path.is_file() and "__pycache__" not in path.parts)


def bound_names(tree):
    for node in ast.walk(tree):
        if isinstance(node, ast.Name) and isinstance(node.ctx, ast.Store):
            yield node.id
        elif isinstance(node, ast.arg):
            yield node.arg
        elif isinstance(node, (ast.FunctionDef, ast.ClassDef)):
            yield node.name


class FormTest(unittest.TestCase):
    def setUp(self):
        self.texts = {path.name: path.read_text(encoding="utf-8") for path in package_files()}
        self.trees = {name: ast.parse(text) for name, text in self.texts.items()}

    def each_node(self, kind):
        for name, tree in self.trees.items():
            for node in ast.walk(tree):
                if isinstance(node, kind):
                    yield f"{name}:{getattr(node, 'lineno', 0)}", node

    def test_files(self):
        self.assertIn("__init__.py", self.texts)
        for name in self.texts:
            self.assertRegex(name, r"^([a-z][a-z0-9_]*|__init__)\.py$")
            self.assertNotIn(name[:-3], dir(builtins))

    def test_lines_signs_and_words(self):
        for name, text in self.texts.items():
            self.assertLessEqual(len(text.splitlines()), 400, name)
            self.assertRegex(text, r"\A[ -~\n]*\Z", name)
            self.assertIsNone(WORDS.search(text), name)
            for line in text.splitlines():
                self.assertLessEqual(len(line), 120, line)

    def test_functions_are_short_and_plain(self):
        for place, node in self.each_node(ast.FunctionDef):
            self.assertLessEqual(node.end_lineno - node.lineno + 1, 40, place)
            self.assertEqual(node.decorator_list, [], place)
            given = node.args
            self.assertFalse(given.vararg or given.kwarg or given.kwonlyargs or given.posonlyargs, place)

    def test_statements_and_expressions(self):
        for place, node in self.each_node(ast.AST):
            self.assertIn(node.__class__.__name__, NODES, place)
        for place, node in self.each_node(ast.Assign):
            self.assertEqual(len(node.targets), 1, place)
        for place, node in self.each_node((ast.For, ast.While)):
            self.assertEqual(node.orelse, [], place)
        for place, node in self.each_node(ast.ListComp):
            self.assertEqual(len(node.generators), 1, place)
            self.assertLessEqual(len(node.generators[0].ifs), 1, place)
        for place, node in self.each_node(ast.Constant):
            self.assertIn(node.value.__class__, (int, str, bool, None.__class__), place)

    def test_top_of_a_module(self):
        for name, tree in self.trees.items():
            for node in tree.body:
                self.assertIsInstance(node, TOP, name)
                if isinstance(node, ast.Expr):
                    self.assertIs(node, tree.body[0], name)
            bound = [node.targets[0].id for node in tree.body if isinstance(node, ast.Assign)]
            self.assertEqual(len(bound), len(set(bound)), name)

    def test_imports_are_of_the_package_alone(self):
        for place, node in self.each_node(ast.ImportFrom):
            self.assertEqual(node.level, 0, place)
            self.assertRegex(node.module, r"^orderpolls\.[a-z_]+$", place)
            self.assertNotIn("*", [name.name for name in node.names], place)

    def test_names(self):
        for name, tree in self.trees.items():
            for bound in bound_names(tree):
                self.assertNotIn(bound, dir(builtins), name)
                self.assertRegex(bound, r"^([A-Za-z][A-Za-z0-9_]*|__(init|eq|repr|str|len)__)$", name)
        for place, node in self.each_node(ast.Name):
            if node.id in dir(builtins):
                self.assertIn(node.id, ALLOWED, place)

    def test_values_of_objects_are_called_like_no_method(self):
        own = {inner.name for place, node in self.each_node(ast.ClassDef) for inner in node.body[1:]}
        taken = {name for kind in (str, int, list, tuple, dict, set, frozenset, bytes) for name in dir(kind)}
        for place, node in self.each_node(ast.Attribute):
            if isinstance(node.ctx, ast.Store):
                self.assertNotIn(node.attr, own, place)
                self.assertNotIn(node.attr, taken.difference(VALUES), place)

    def test_methods_called_are_listed_or_the_packages_own(self):
        own = {inner.name for place, node in self.each_node(ast.ClassDef) for inner in node.body[1:]}
        for place, node in self.each_node(ast.Call):
            if isinstance(node.func, ast.Attribute):
                self.assertIn(node.func.attr, own.union(METHODS), place)


if __name__ == "__main__":
    unittest.main()
