"""The package's files keep to the part of Python that is agreed on, as far as a short check can see it."""

import ast
import re
import unittest
from pathlib import Path

import freezersoverrun

PACKAGE = Path(freezersoverrun.__file__).parent
FILES = sorted(PACKAGE.glob("*.py"))

# Every kind of node that the rules leave in use.
ALLOWED = set(
    "Module FunctionDef ClassDef arguments arg Lambda Assign AugAssign If While For Return Break Continue Pass Raise Try"
    " ExceptHandler Expr Constant List Tuple Dict BinOp UnaryOp BoolOp Compare IfExp Call keyword Attribute Subscript"
    " Slice ListComp comprehension JoinedStr FormattedValue Name Load Store ImportFrom alias Add Sub Mult FloorDiv Mod"
    " Pow BitAnd BitOr BitXor LShift RShift Invert Not And Or USub Eq NotEq Lt LtE Gt GtE In NotIn Is IsNot".split()
)
BUILTINS = set(
    "len range enumerate zip min max sum abs sorted reversed int str bool list tuple dict set frozenset isinstance ord"
    " repr any all divmod Exception ValueError TypeError KeyError IndexError LookupError ZeroDivisionError"
    " ArithmeticError OverflowError RuntimeError NotImplementedError AttributeError StopIteration".split()
)
METHODS = set(
    "append clear copy count endswith extend find get index insert isalnum isalpha isdigit islower isspace isupper items"
    " join keys ljust lower lstrip partition pop remove replace reverse rfind rjust rpartition rsplit rstrip setdefault"
    " split splitlines startswith strip update upper values zfill bit_length".split()
)
BANNED_WORDS = re.compile(
    r"\b(type|typing|typing_extensions|enum|Enum|IntEnum|StrEnum|Flag|IntFlag|Generic|Protocol|ABC|ABCMeta|namedtuple"
    r"|NamedTuple|TypedDict|TYPE_CHECKING|abstractmethod)\b|dataclass|overload|contextmanager"
)


def trees():
    return [(path.name, ast.parse(path.read_text())) for path in FILES]


def bound_names(tree):
    """Every name that the file itself binds."""
    names = set()
    for node in ast.walk(tree):
        if isinstance(node, (ast.FunctionDef, ast.ClassDef)):
            names.add(node.name)
        elif isinstance(node, ast.arg):
            names.add(node.arg)
        elif isinstance(node, ast.alias):
            names.add(node.name)
        elif isinstance(node, ast.Name) and isinstance(node.ctx, ast.Store):
            names.add(node.id)
    return names


class Language(unittest.TestCase):
    def test_nothing_else_lies_in_the_package(self):
        others = [path.name for path in PACKAGE.iterdir() if path.suffix != ".py" and path.name != "__pycache__"]
        self.assertEqual(others, [])
        for path in FILES:
            self.assertRegex(path.name, r"^(__init__|[a-z][a-z0-9_]*)\.py$")

    def test_size_and_signs(self):
        for path in FILES:
            rows = path.read_text().split("\n")
            self.assertLessEqual(len(rows), 401, path.name)
            for number, row in enumerate(rows, 1):
                self.assertRegex(row, r"^[ -~]{0,120}$", f"{path.name} {number}")
                self.assertIsNone(BANNED_WORDS.search(row), f"{path.name} {number}")

    def test_short_functions(self):
        for name, tree in trees():
            for node in ast.walk(tree):
                if isinstance(node, ast.FunctionDef):
                    self.assertLessEqual(node.end_lineno - node.lineno + 1, 40, f"{name} {node.name}")
                    self.assertEqual(node.decorator_list, [], f"{name} {node.name}")

    def test_kinds_of_nodes(self):
        for name, tree in trees():
            for node in ast.walk(tree):
                self.assertIn(node.__class__.__name__, ALLOWED, f"{name} {getattr(node, 'lineno', '')}")
                if isinstance(node, ast.Assign):
                    self.assertEqual(len(node.targets), 1, f"{name} {node.lineno}")
                if isinstance(node, (ast.For, ast.While)):
                    self.assertEqual(node.orelse, [], f"{name} {node.lineno}")
                if isinstance(node, ast.Constant):
                    self.assertIn(node.value.__class__, (int, str, bool, None.__class__), f"{name} {node.lineno}")

    def test_names(self):
        for name, tree in trees():
            own = bound_names(tree)
            methods = {node.name for node in ast.walk(tree) if isinstance(node, ast.FunctionDef)}
            self.assertEqual(own & BUILTINS, set(), name)
            for bound in own - {"__init__"}:
                self.assertRegex(bound, "^[A-Za-z]", name)
            for node in ast.walk(tree):
                if isinstance(node, ast.Name):
                    self.assertIn(node.id, own | BUILTINS, f"{name} {node.lineno}")
                if isinstance(node, ast.Call) and isinstance(node.func, ast.Attribute):
                    self.assertIn(node.func.attr, METHODS | methods | own_methods(), f"{name} {node.lineno}")

    def test_imports_are_the_package_s_own(self):
        for name, tree in trees():
            for node in ast.walk(tree):
                if isinstance(node, ast.ImportFrom):
                    self.assertIn(node, tree.body, name)
                    self.assertRegex(node.module, r"^freezersoverrun\.[a-z]+$", name)
                    self.assertTrue((PACKAGE / f"{node.module.split('.')[1]}.py").exists(), name)


def own_methods():
    return {
        node.name
        for name, tree in trees()
        for holder in tree.body if isinstance(holder, ast.ClassDef)
        for node in holder.body if isinstance(node, ast.FunctionDef)
    }


if __name__ == "__main__":
    unittest.main()
