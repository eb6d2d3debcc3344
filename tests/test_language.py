"""The package keeps to the small part of Python that it is to keep to."""

import ast
import builtins
import re
import unittest
from pathlib import Path

PACKAGE = Path(__file__).resolve().parent.parent / "handover"
FILES = sorted(path for path in PACKAGE.iterdir() if path.name != "__pycache__")

FORBIDDEN_NODES = (
    ast.With, ast.Match, ast.Delete, ast.Global, ast.Nonlocal, ast.Assert, ast.Yield, ast.YieldFrom, ast.Await,
    ast.AsyncFunctionDef, ast.AsyncFor, ast.AsyncWith, ast.Div, ast.MatMult, ast.SetComp, ast.DictComp,
    ast.GeneratorExp, ast.NamedExpr, ast.Starred, ast.Set, ast.AnnAssign, ast.Import,
)
ALLOWED_BUILTINS = set(
    "len range enumerate zip min max sum abs sorted reversed int str bool list tuple dict set frozenset isinstance ord repr "
    "any all divmod Exception ValueError TypeError KeyError IndexError LookupError ZeroDivisionError ArithmeticError "
    "OverflowError RuntimeError NotImplementedError AttributeError StopIteration".split()
)
ALLOWED_METHODS = set(
    "append clear copy count endswith extend find get index insert isalnum isalpha isdigit islower isspace isupper items "
    "join keys ljust lower lstrip partition pop remove replace reverse rfind rjust rpartition rsplit rstrip setdefault "
    "split splitlines startswith strip update upper values zfill bit_length __init__".split()
)
FORBIDDEN_WORDS = (
    "type|typing|typing_extensions|enum|Enum|IntEnum|StrEnum|Flag|IntFlag|Generic|Protocol|ABC|ABCMeta|namedtuple|"
    "NamedTuple|TypedDict|TYPE_CHECKING|abstractmethod|register|mro|elements|open|input"
)


def trees():
    return [(path.name, ast.parse(path.read_text(encoding="utf-8"))) for path in FILES]


def every_node():
    return [(name, node) for name, tree in trees() for node in ast.walk(tree)]


def bound_name(node):
    if isinstance(node, (ast.FunctionDef, ast.ClassDef)):
        return node.name
    if isinstance(node, ast.arg):
        return node.arg
    if isinstance(node, ast.Name) and isinstance(node.ctx, ast.Store):
        return node.id
    if isinstance(node, ast.ExceptHandler):
        return node.name
    return None


class Files(unittest.TestCase):
    def test_plain_files_alone(self):
        for path in FILES:
            self.assertRegex(path.name, r"\A[a-z_]+\.py\Z")

    def test_sizes_and_signs(self):
        for path in FILES:
            text = path.read_text(encoding="utf-8")
            self.assertRegex(text, r"\A[ -~\n]*\Z", path.name)
            self.assertLessEqual(len(text.splitlines()), 400, path.name)
            self.assertLessEqual(max(map(len, text.splitlines())), 120, path.name)

    def test_words_that_are_not_used(self):
        for path in FILES:
            text = path.read_text(encoding="utf-8")
            self.assertIsNone(re.search(rf"\b({FORBIDDEN_WORDS})\b|dataclass|overload|contextmanager", text), path.name)

    def test_imports_come_from_the_package_without_circles(self):
        drawn = {}
        for name, tree in trees():
            rows = [node for node in ast.walk(tree) if isinstance(node, ast.ImportFrom)]
            self.assertTrue(all(row in tree.body and row.level == 0 for row in rows), name)
            drawn["handover." + name[:-3]] = {row.module for row in rows}
        while drawn:
            free = [name for name, others in drawn.items() if not others & set(drawn)]
            self.assertTrue(free, f"these draw from one another: {sorted(drawn)}")
            for name in free:
                self.assertTrue(all(other.startswith("handover.") for other in drawn[name]), name)
            drawn = {name: others for name, others in drawn.items() if name not in free}


class Code(unittest.TestCase):
    def test_statements_and_expressions_that_are_not_used(self):
        for name, node in every_node():
            self.assertNotIsInstance(node, FORBIDDEN_NODES, name)
            if isinstance(node, ast.Constant):
                self.assertNotIsInstance(node.value, (float, bytes), name)
            if isinstance(node, ast.Constant) and isinstance(node.value, str):
                self.assertNotIn("%", node.value, name)
            if isinstance(node, (ast.For, ast.While)):
                self.assertFalse(node.orelse, name)
            if isinstance(node, ast.Try):
                self.assertFalse(node.finalbody, name)
            if isinstance(node, ast.Assign):
                self.assertEqual(len(node.targets), 1, name)
                self.assertNotIsInstance(node.targets[0], ast.Tuple, name)

    def test_is_stands_beside_none_true_and_false_alone(self):
        for name, node in every_node():
            if isinstance(node, ast.Compare) and isinstance(node.ops[0], (ast.Is, ast.IsNot)):
                self.assertIsInstance(node.comparators[0], ast.Constant, name)

    def test_functions_and_classes(self):
        for name, node in every_node():
            if isinstance(node, ast.FunctionDef):
                self.assertLessEqual(node.end_lineno - node.lineno + 1, 40, node.name)
                self.assertFalse(node.decorator_list or node.args.vararg or node.args.kwarg or node.args.kwonlyargs, node.name)
                self.assertIsNone(node.returns, node.name)
            if isinstance(node, ast.ClassDef):
                self.assertFalse(node.decorator_list or node.keywords or len(node.bases) > 1, node.name)
                self.assertTrue(all(isinstance(part, ast.FunctionDef) for part in node.body), node.name)

    def test_names(self):
        for name, node in every_node():
            bound = bound_name(node)
            if bound is not None and bound != "__init__":
                self.assertRegex(bound, r"\A[A-Za-z][A-Za-z0-9_]*\Z", name)
                self.assertFalse(hasattr(builtins, bound), f"{name}: {bound}")
            if isinstance(node, ast.Name) and hasattr(builtins, node.id):
                self.assertIn(node.id, ALLOWED_BUILTINS, name)

    def test_locals_are_not_called_like_a_class_or_an_import(self):
        for name, tree in trees():
            taken = {node.name for node in tree.body if isinstance(node, ast.ClassDef)}
            taken |= {alias.name for node in tree.body if isinstance(node, ast.ImportFrom) for alias in node.names}
            for node in ast.walk(tree):
                if not isinstance(node, (ast.ClassDef, ast.FunctionDef)):
                    self.assertNotIn(bound_name(node), taken, name)

    def test_methods_and_values_of_objects(self):
        nodes = [node for name, node in every_node()]
        classes = [node for node in nodes if isinstance(node, ast.ClassDef)]
        methods = {part.name for each in classes for part in each.body}
        values = {node.attr for node in nodes if isinstance(node, ast.Attribute) and isinstance(node.ctx, ast.Store)}
        self.assertFalse(methods & values)
        for kind in (str, int, list, tuple, dict, set, bytes):
            self.assertFalse(((methods | values) - {"__init__"}) & set(dir(kind)), kind)
        called = {node.func.attr for node in nodes if isinstance(node, ast.Call) and isinstance(node.func, ast.Attribute)}
        self.assertFalse(called - methods - ALLOWED_METHODS)
