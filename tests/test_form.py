"""Those rules of LANGUAGE.md that a look at each of the package's files by itself can tell."""

import ast
import builtins
import pathlib
import re
import unittest

PACKAGE = pathlib.Path(__file__).resolve().parent.parent / "freshbook"

# L3 to L7: every other kind of node is outside the language.
STATEMENTS = """Module ImportFrom alias FunctionDef arguments arg ClassDef Assign AugAssign If While For Return Break
    Continue Pass Raise Try ExceptHandler Expr"""
EXPRESSIONS = """Constant List Tuple Dict Set BinOp UnaryOp BoolOp Compare IfExp Call keyword Attribute Subscript Slice
    ListComp comprehension JoinedStr FormattedValue Name Lambda Load Store"""
OPERATORS = """Add Sub Mult FloorDiv Mod Pow BitAnd BitOr BitXor LShift RShift Invert And Or Not UAdd USub Eq NotEq Lt
    LtE Gt GtE Is IsNot In NotIn"""
KINDS = (STATEMENTS + " " + EXPRESSIONS + " " + OPERATORS).split()

METHODS = ("__init__", "__eq__", "__repr__", "__str__", "__len__")
WORDS = re.compile(
    r"\b(type|typing|typing_extensions|enum|Enum|IntEnum|StrEnum|Flag|IntFlag|Generic|Protocol|ABC|ABCMeta|namedtuple"
    r"|NamedTuple|TypedDict|TYPE_CHECKING|abstractmethod)\b|dataclass|overload|contextmanager"
)
OWN_METHODS = """append clear copy count endswith extend find get index insert isalnum isalpha isdigit islower isspace
    isupper items join keys ljust lower lstrip partition pop remove replace reverse rfind rjust rpartition rsplit rstrip
    setdefault split splitlines startswith strip update upper values zfill bit_length""".split()
BUILTINS = """len range enumerate zip min max sum abs sorted reversed int str bool list tuple dict set frozenset isinstance
    ord repr any all divmod Exception ValueError TypeError KeyError IndexError LookupError ZeroDivisionError
    ArithmeticError OverflowError RuntimeError NotImplementedError AttributeError StopIteration""".split()


def files():
    return sorted(path for path in PACKAGE.rglob("*") if "__pycache__" not in path.parts)


def nodes():
    for path in files():
        for node in ast.walk(ast.parse(path.read_text("utf-8"))):
            yield f"{path.name}:{getattr(node, 'lineno', 0)}", node


def bound_names(node):
    if isinstance(node, (ast.FunctionDef, ast.ClassDef)):
        return [node.name]
    if isinstance(node, ast.arg):
        return [node.arg]
    if isinstance(node, ast.Name) and isinstance(node.ctx, ast.Store):
        return [node.id]
    if isinstance(node, ast.Attribute) and isinstance(node.ctx, ast.Store):
        return [node.attr]
    if isinstance(node, ast.ImportFrom):
        return [alias.asname or alias.name for alias in node.names]
    return []


def all_bound_names():
    return {name for place, node in nodes() for name in bound_names(node)}


class FormTest(unittest.TestCase):
    def test_files(self):
        self.assertIn("__init__.py", [path.name for path in files()])
        for path in files():
            self.assertRegex(path.name, r"\A[a-z0-9_]+\.py\Z")

    def test_signs_size_and_words(self):
        for path in files():
            text = path.read_text("utf-8")
            self.assertRegex(text, r"\A[ -~\n]*\Z", path.name)
            self.assertIsNone(WORDS.search(text), path.name)
            self.assertLessEqual(text.count("\n"), 400, path.name)
            for line in text.split("\n"):
                self.assertLessEqual(len(line), 120, line)

    def test_kinds_of_nodes(self):
        for place, node in nodes():
            self.assertIn(type(node).__name__, KINDS, place)

    def test_imports_are_the_package_s_own(self):
        for place, node in nodes():
            if isinstance(node, ast.ImportFrom):
                self.assertEqual(node.level, 0, place)
                self.assertRegex(node.module, r"\Afreshbook\.[a-z_.]+\Z", place)
                self.assertNotIn("*", [alias.name for alias in node.names], place)

    def test_functions(self):
        for place, node in nodes():
            if isinstance(node, ast.FunctionDef):
                self.assertLessEqual(node.end_lineno - node.lineno + 1, 40, place)
                self.assertEqual((node.decorator_list, node.returns), ([], None), place)
            if isinstance(node, ast.arguments):
                extra = (node.vararg, node.kwarg, node.kwonlyargs, node.posonlyargs)
                self.assertEqual(extra, (None, None, [], []), place)
            if isinstance(node, ast.arg):
                self.assertIsNone(node.annotation, place)

    def test_classes(self):
        for place, node in nodes():
            if isinstance(node, ast.ClassDef):
                self.assertLessEqual(len(node.bases), 1, place)
                self.assertEqual((node.decorator_list, node.keywords), ([], []), place)
                for part in node.body:
                    self.assertIsInstance(part, (ast.FunctionDef, ast.Pass), place)

    def test_names_that_are_bound(self):
        for place, node in nodes():
            for name in bound_names(node):
                self.assertTrue(name in METHODS or re.match(r"\A[A-Za-z][A-Za-z0-9_]*\Z", name), f"{place} {name}")
                if not isinstance(node, ast.Attribute):
                    self.assertNotIn(name, dir(builtins), place)

    def test_names_that_are_used(self):
        own = all_bound_names()
        for place, node in nodes():
            if isinstance(node, ast.Name):
                self.assertTrue(node.id in own or node.id in BUILTINS, f"{place} {node.id}")
            if isinstance(node, ast.Attribute):
                known = node.attr in own or node.attr in OWN_METHODS or node.attr in METHODS
                self.assertTrue(known, f"{place} {node.attr}")

    def test_statements_by_themselves_and_targets(self):
        for place, node in nodes():
            if isinstance(node, ast.Module):
                self.assertIsNotNone(ast.get_docstring(node), place)
                for part in node.body[1:]:
                    self.assertNotIsInstance(part, ast.Expr, place)
            if isinstance(node, ast.Assign):
                self.assertEqual(len(node.targets), 1, place)
            if isinstance(node, (ast.For, ast.While)):
                self.assertEqual(node.orelse, [], place)
            if isinstance(node, ast.Constant):
                self.assertIn(type(node.value), (int, str, bool, type(None)), place)
