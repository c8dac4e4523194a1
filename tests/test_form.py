"""A part of the rules for the form of the package's code, those that are quickly checked."""
import ast
import builtins
import pathlib
import re
import unittest

PACKAGE = pathlib.Path(__file__).resolve().parent.parent / "ringseat"

NODES = set("""
    Module Expr Constant ImportFrom alias FunctionDef ClassDef arguments arg Return If While For Break Continue Pass
    Raise Try ExceptHandler Assign AugAssign Name Load Store Attribute Subscript Slice Call keyword List Tuple Dict
    ListComp comprehension Lambda IfExp BinOp BoolOp UnaryOp Compare JoinedStr FormattedValue Add Sub Mult FloorDiv
    Mod Pow BitAnd BitOr BitXor LShift RShift Invert And Or Not USub Eq NotEq Lt LtE Gt GtE In NotIn Is IsNot
""".split())

OWN_NAMES = set("""
    len range enumerate zip min max sum abs sorted reversed int str bool list tuple dict set frozenset isinstance ord
    repr any all divmod Exception ValueError TypeError KeyError IndexError LookupError ZeroDivisionError
    ArithmeticError OverflowError RuntimeError NotImplementedError AttributeError StopIteration
""".split())

METHODS = {"__init__", "__eq__", "__repr__", "__str__", "__len__"}

WORDS = re.compile(
    r"\b(type|typing|typing_extensions|enum|Enum|IntEnum|StrEnum|Flag|IntFlag|Generic|Protocol|ABC|ABCMeta|namedtuple"
    r"|NamedTuple|TypedDict|TYPE_CHECKING|abstractmethod)\b|dataclass|overload|contextmanager"
)


def files():
    return sorted(path for path in PACKAGE.rglob("*") if path.is_file() and "__pycache__" not in path.parts)


def nodes():
    for path in files():
        for node in ast.walk(ast.parse(path.read_text(encoding="ascii"))):
            yield path.name, node


def bound_names(node):
    if isinstance(node, (ast.FunctionDef, ast.ClassDef)):
        return [node.name]
    if isinstance(node, ast.arg):
        return [node.arg]
    if isinstance(node, ast.Name) and isinstance(node.ctx, ast.Store):
        return [node.id]
    return []


class Form(unittest.TestCase):
    def test_files(self):
        self.assertIn(PACKAGE / "__init__.py", files())
        for path in files():
            self.assertRegex(path.name, r"\A([a-z][a-z0-9_]*|__init__)\.py\Z")

    def test_signs_and_sizes(self):
        for path in files():
            text = path.read_bytes().decode("ascii")
            self.assertRegex(text, r"\A[ -~\n]*\Z", path.name)
            self.assertLessEqual(len(text.splitlines()), 400, path.name)
            self.assertLessEqual(max(map(len, text.splitlines())), 120, path.name)

    def test_words(self):
        for path in files():
            self.assertNotRegex(path.read_text(encoding="ascii"), WORDS, path.name)

    def test_statements_and_expressions(self):
        for name, node in nodes():
            self.assertIn(node.__class__.__name__, NODES, (name, getattr(node, "lineno", 0)))
            if isinstance(node, ast.Constant):
                self.assertIsInstance(node.value, (int, str, type(None)), (name, node.lineno))
            if isinstance(node, ast.FunctionDef):
                self.assertLessEqual(node.end_lineno - node.lineno + 1, 40, (name, node.name))
                self.assertEqual(node.decorator_list, [], (name, node.name))

    def test_imports(self):
        for name, node in nodes():
            if isinstance(node, ast.ImportFrom):
                self.assertEqual(node.level, 0, (name, node.lineno))
                self.assertRegex(node.module, r"\Aringseat\.[a-z_]+\Z", (name, node.lineno))
                self.assertNotIn("*", [part.name for part in node.names], (name, node.lineno))

    def test_names(self):
        for name, node in nodes():
            for bound in bound_names(node):
                self.assertFalse(hasattr(builtins, bound), (name, bound))
                self.assertTrue(bound in METHODS or re.fullmatch(r"[A-Za-z][A-Za-z0-9_]*", bound), (name, bound))
            if isinstance(node, ast.Name) and hasattr(builtins, node.id):
                self.assertIn(node.id, OWN_NAMES, (name, node.lineno))


if __name__ == "__main__":
    unittest.main()
