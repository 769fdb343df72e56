"""Holds the package's files against those of the language's rules that a walk over the code can see."""

import ast
import builtins
import pathlib
import re
import unittest

PACKAGE = pathlib.Path(__file__).resolve().parent.parent / "clausewood"

STATEMENTS = (
    "Module FunctionDef ClassDef ImportFrom Assign AugAssign If While For Return Break Continue Pass Raise Try "
    "ExceptHandler Expr"
)
EXPRESSIONS = (
    "Constant Name Attribute Subscript Slice Call keyword BinOp UnaryOp BoolOp Compare IfExp Lambda List Tuple Dict "
    "ListComp comprehension JoinedStr FormattedValue arguments arg alias Load Store"
)
SIGNS = (
    "Add Sub Mult FloorDiv Mod Pow BitAnd BitOr BitXor LShift RShift Invert UAdd USub Not And Or "
    "Eq NotEq Lt LtE Gt GtE Is IsNot In NotIn"
)
NODES = (STATEMENTS + " " + EXPRESSIONS + " " + SIGNS).split()
OWN_NAMES = (
    "len range enumerate zip min max sum abs sorted reversed int str bool list tuple dict set frozenset isinstance "
    "ord repr any all divmod Exception ValueError TypeError KeyError IndexError LookupError ZeroDivisionError "
    "ArithmeticError OverflowError RuntimeError NotImplementedError AttributeError StopIteration"
).split()
OWN_METHODS = (
    "append clear copy count endswith extend find get index insert isalnum isalpha isdigit islower isspace isupper "
    "items join keys ljust lower lstrip partition pop remove replace reverse rfind rjust rpartition rsplit rstrip "
    "setdefault split splitlines startswith strip update upper values zfill bit_length"
).split()
WORDS_OUT = re.compile(
    r"\b(type|typing|typing_extensions|enum|Enum|IntEnum|StrEnum|Flag|IntFlag|Generic|Protocol|ABC|ABCMeta|namedtuple|"
    r"NamedTuple|TypedDict|TYPE_CHECKING|abstractmethod)\b|dataclass|overload|contextmanager"
)
DOUBLE = ("__init__", "__eq__", "__repr__", "__str__", "__len__")


def files():
    return [path for path in sorted(PACKAGE.rglob("*")) if "__pycache__" not in path.parts]


def walks():
    return [(path.name, node) for path in files() for node in ast.walk(ast.parse(path.read_text("utf-8")))]


class Language(unittest.TestCase):
    def test_files(self):
        self.assertIn(PACKAGE / "__init__.py", files())
        for path in files():
            self.assertRegex(path.name, r"^(__init__|[a-z][a-z0-9_]*)\.py$")

    def test_signs_and_size(self):
        for path in files():
            text = path.read_text("utf-8")
            self.assertEqual(re.findall(r"[^ -~\n]", text), [], path.name)
            self.assertIsNone(WORDS_OUT.search(text), path.name)
            self.assertLessEqual(len(text.splitlines()), 400, path.name)
            self.assertLessEqual(max([len(line) for line in text.splitlines()]), 120, path.name)

    def test_only_known_forms(self):
        for name, node in walks():
            where = (name, getattr(node, "lineno", 0))
            self.assertIn(type(node).__name__, NODES, where)
            if isinstance(node, ast.Constant):
                self.assertTrue(node.value is None or isinstance(node.value, (int, str)), where)
                self.assertNotIn("%", str(node.value), where)
            if isinstance(node, ast.FormattedValue):
                self.assertIsInstance(node.value, ast.Name, where)
            if isinstance(node, ast.Assign):
                self.assertEqual(len(node.targets), 1, where)
                self.assertNotIsInstance(node.targets[0], (ast.Tuple, ast.List), where)
            if isinstance(node, (ast.For, ast.While, ast.Try)):
                self.assertFalse(not isinstance(node, ast.Try) and node.orelse, where)
                self.assertFalse(isinstance(node, ast.Try) and node.finalbody, where)

    def test_functions_and_classes(self):
        for name, node in walks():
            if isinstance(node, ast.FunctionDef):
                self.assertLessEqual(node.end_lineno - node.lineno + 1, 40, (name, node.name))
                self.assertEqual(node.decorator_list, [], (name, node.name))
                self.assertTrue(node.name in DOUBLE or not node.name.startswith("_"), (name, node.name))
                self.assertFalse(node.args.vararg or node.args.kwarg or node.args.kwonlyargs, (name, node.name))
            if isinstance(node, ast.ClassDef):
                self.assertLessEqual(len(node.bases), 1, (name, node.name))
                self.assertEqual(node.decorator_list, [], (name, node.name))

    def test_imports(self):
        for name, node in walks():
            if isinstance(node, ast.ImportFrom):
                self.assertEqual(node.level, 0, name)
                self.assertRegex(node.module, r"^clausewood\.", name)
                self.assertNotIn("*", [part.name for part in node.names], name)

    def test_names_and_methods(self):
        own = [node.name for name, node in walks() if isinstance(node, ast.FunctionDef)]
        for name, node in walks():
            if isinstance(node, ast.Name):
                where = (name, node.lineno, node.id)
                self.assertFalse(node.id.startswith("_"), where)
                self.assertTrue(node.id in OWN_NAMES or not hasattr(builtins, node.id), where)
                if isinstance(node.ctx, ast.Store):
                    self.assertFalse(hasattr(builtins, node.id), where)
            if isinstance(node, ast.arg):
                self.assertFalse(hasattr(builtins, node.arg) or node.arg.startswith("_"), (name, node.arg))
            if isinstance(node, ast.Call) and isinstance(node.func, ast.Attribute):
                self.assertIn(node.func.attr, OWN_METHODS + own, (name, node.lineno))


if __name__ == "__main__":
    unittest.main()
