"""A part of the rules for the form of the package's code, those that are quickly checked."""
import ast
import builtins
import pathlib
import re
import unittest

PACKAGE = pathlib.Path(__file__).resolve().parent.parent / "ringseat"

NODES = set("""
    Module Expr Constant ImportFrom alias FunctionDef ClassDef arguments arg Return If While For Break Continue Pass
    Raise Try ExceptHandler Assign AugAssign Name Load Store Attribute Subscript Slice Call keyword List Tuple Dict
    ListComp comprehension Lambda IfExp BinOp BoolOp UnaryOp Compare JoinedStr FormattedValue Add Sub Mult FloorDiv
    Mod Pow BitAnd BitOr BitXor LShift RShift Invert And Or Not USub Eq NotEq Lt LtE Gt GtE In NotIn Is IsNot
""".split())

OWN_NAMES = set("""
    len range enumerate zip min max sum abs sorted reversed int str bool list tuple dict set frozenset isinstance ord
    repr any all divmod Exception ValueError TypeError KeyError IndexError LookupError ZeroDivisionError
    ArithmeticError OverflowError RuntimeError NotImplementedError AttributeError StopIteration
""".split())

METHODS = {"__init__", "__eq__", "__repr__", "__str__", "__len__"}

METHODS_OF_VALUES = set("""
    append clear copy count endswith extend find get index insert isalnum isalpha isdigit islower isspace isupper items
    join keys ljust lower lstrip partition pop remove replace reverse rfind rjust rpartition rsplit rstrip setdefault
    split splitlines startswith strip update upper values zfill bit_length
""".split())

WORDS = re.compile(
    r"\b(type|typing|typing_extensions|enum|Enum|IntEnum|StrEnum|Flag|IntFlag|Generic|Protocol|ABC|ABCMeta|namedtuple"
    r"|NamedTuple|TypedDict|TYPE_CHECKING|abstractmethod)\b|dataclass|overload|contextmanager"
)


def files():
    return sorted(path for path in PACKAGE.rglob("*") if path.is_file() and "__pycache__" not in path.parts)


def nodes():
    for path in files():
        for node in ast.walk(ast.parse(path.read_text(encoding="ascii"))):
            yield path.name, node


def bound_names(node):
    if isinstance(node, (ast.FunctionDef, ast.ClassDef)):
        return [node.name]
    if isinstance(node, ast.arg):
        return [node.arg]
    if isinstance(node, ast.Name) and isinstance(node.ctx, ast.Store):
        return [node.id]
    return []


def trees():
    return {path.stem: ast.parse(path.read_text(encoding="ascii")) for path in files()}


def own_methods():
    return {part.name for _, node in nodes() if isinstance(node, ast.ClassDef)
            for part in node.body if isinstance(part, ast.FunctionDef)}


def drawn_from(tree):
    return {node.module.split(".")[1]: [part.name for part in node.names]
            for node in tree.body if isinstance(node, ast.ImportFrom)}


class Form(unittest.TestCase):
    def test_files(self):
        self.assertIn(PACKAGE / "__init__.py", files())
        for path in files():
            self.assertRegex(path.name, r"\A([a-z][a-z0-9_]*|__init__)\.py\Z")

    def test_signs_and_sizes(self):
        for path in files():
            text = path.read_bytes().decode("ascii")
            self.assertRegex(text, r"\A[ -~\n]*\Z", path.name)
            self.assertLessEqual(len(text.splitlines()), 400, path.name)
            self.assertLessEqual(max(map(len, text.splitlines())), 120, path.name)

    def test_words(self):
        for path in files():
            self.assertNotRegex(path.read_text(encoding="ascii"), WORDS, path.name)

    def test_statements_and_expressions(self):
        for name, node in nodes():
            self.assertIn(node.__class__.__name__, NODES, (name, getattr(node, "lineno", 0)))
            if isinstance(node, ast.Constant):
                self.assertIsInstance(node.value, (int, str, type(None)), (name, node.lineno))
            if isinstance(node, ast.FunctionDef):
                self.assertLessEqual(node.end_lineno - node.lineno + 1, 40, (name, node.name))
                self.assertEqual(node.decorator_list, [], (name, node.name))

    def test_imports(self):
        for name, node in nodes():
            if isinstance(node, ast.ImportFrom):
                self.assertEqual(node.level, 0, (name, node.lineno))
                self.assertRegex(node.module, r"\Aringseat\.[a-z_]+\Z", (name, node.lineno))
                self.assertNotIn("*", [part.name for part in node.names], (name, node.lineno))

    def test_names(self):
        for name, node in nodes():
            for bound in bound_names(node):
                self.assertTrue(bound in METHODS or not hasattr(builtins, bound), (name, bound))
                self.assertTrue(bound in METHODS or re.fullmatch(r"[A-Za-z][A-Za-z0-9_]*", bound), (name, bound))
            if isinstance(node, ast.Name) and hasattr(builtins, node.id):
                self.assertIn(node.id, OWN_NAMES, (name, node.lineno))

    def test_what_stands_by_itself_is_a_call(self):
        for name, tree in trees().items():
            self.assertIsNotNone(ast.get_docstring(tree), name)
            for node in ast.walk(tree):
                if isinstance(node, ast.Expr) and node is not tree.body[0]:
                    self.assertIsInstance(node.value, ast.Call, (name, node.lineno))
                if isinstance(node, ast.Assign):
                    self.assertEqual(len(node.targets), 1, (name, node.lineno))
                    self.assertNotIsInstance(node.targets[0], ast.Tuple, (name, node.lineno))

    def test_is_stands_beside_none_and_the_truths(self):
        for name, node in nodes():
            if isinstance(node, ast.Compare) and any(isinstance(sign, (ast.Is, ast.IsNot)) for sign in node.ops):
                sides = [part.value for part in [node.left] + node.comparators if isinstance(part, ast.Constant)]
                self.assertTrue(any(side in (None, True, False) for side in sides), (name, node.lineno))

    def test_methods(self):
        values = set()
        for name, node in nodes():
            if isinstance(node, ast.Attribute) and isinstance(node.ctx, ast.Store):
                values.add(node.attr)
            if isinstance(node, ast.Call) and isinstance(node.func, ast.Attribute):
                self.assertIn(node.func.attr, METHODS_OF_VALUES | own_methods(), (name, node.lineno))
        self.assertEqual(values & own_methods(), set())
        for value in (0, "", [], {}, set(), b""):
            self.assertEqual({name for name in values | own_methods() - METHODS if hasattr(value, name)}, set())

    def test_names_are_drawn_from_the_file_that_defines_them_and_never_in_a_circle(self):
        found = {name: drawn_from(tree) for name, tree in trees().items()}
        for name, drawn in found.items():
            for other, parts in drawn.items():
                defined = {bound for node in trees()[other].body for bound in bound_names(node)}
                self.assertEqual(set(parts) - defined, set(), (name, other))
        while found:
            free = [name for name, drawn in found.items() if not set(drawn) & set(found)]
            self.assertTrue(free, found)
            for name in free:
                found.pop(name)

    def test_no_local_is_called_like_an_import_or_a_class(self):
        for name, tree in trees().items():
            taken = {part for parts in drawn_from(tree).values() for part in parts}
            taken |= {node.name for node in tree.body if isinstance(node, ast.ClassDef)}
            for node in ast.walk(tree):
                if not isinstance(node, ast.ClassDef):
                    self.assertEqual(set(bound_names(node)) & taken, set(), name)


if __name__ == "__main__":
    unittest.main()
