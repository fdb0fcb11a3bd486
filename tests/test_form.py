"""A part of the rules of LANGUAGE.md: those that a look at the package's files can tell easily."""

import ast
import builtins
import pathlib
import re
import unittest

PACKAGE = pathlib.Path(__file__).resolve().parent.parent / "freshbook"

# L3 to L7: every other kind of node is outside the language.
STATEMENTS = """Module ImportFrom alias FunctionDef arguments arg ClassDef Assign AugAssign If While For Return Break
    Continue Pass Raise Try ExceptHandler Expr"""
EXPRESSIONS = """Constant List Tuple Dict Set BinOp UnaryOp BoolOp Compare IfExp Call keyword Attribute Subscript Slice
    ListComp comprehension JoinedStr FormattedValue Name Lambda Load Store"""
OPERATORS = """Add Sub Mult FloorDiv Mod Pow BitAnd BitOr BitXor LShift RShift Invert And Or Not UAdd USub Eq NotEq Lt
    LtE Gt GtE Is IsNot In NotIn"""
KINDS = (STATEMENTS + " " + EXPRESSIONS + " " + OPERATORS).split()

METHODS = ("__init__", "__eq__", "__repr__", "__str__", "__len__")
WORDS = re.compile(
    r"\b(type|typing|typing_extensions|enum|Enum|IntEnum|StrEnum|Flag|IntFlag|Generic|Protocol|ABC|ABCMeta|namedtuple"
    r"|NamedTuple|TypedDict|TYPE_CHECKING|abstractmethod)\b|dataclass|overload|contextmanager"
)
OWN_METHODS = """append clear copy count endswith extend find get index insert isalnum isalpha isdigit islower isspace
    isupper items join keys ljust lower lstrip partition pop remove replace reverse rfind rjust rpartition rsplit rstrip
    setdefault split splitlines startswith strip update upper values zfill bit_length""".split()
BUILTINS = """len range enumerate zip min max sum abs sorted reversed int str bool list tuple dict set frozenset
    isinstance ord repr any all divmod Exception ValueError TypeError KeyError IndexError LookupError
    ZeroDivisionError ArithmeticError OverflowError RuntimeError NotImplementedError AttributeError
    StopIteration""".split()
KEYWORDS = {
    "sorted": ("key", "reverse"),
    "min": ("key", "default"),
    "max": ("key", "default"),
    "sum": ("start",),
    "enumerate": ("start",),
    "zip": ("strict",),
}
NOT_AS_VALUES = """items keys values pop update append clear extend insert remove reverse setdefault sort args encode
    format""".split()
WALKED = ("zip", "enumerate", "reversed", "range", "items", "keys", "values")


def files():
    return sorted(path for path in PACKAGE.rglob("*") if "__pycache__" not in path.parts)


def nodes():
    for path in files():
        for node in ast.walk(ast.parse(path.read_text("utf-8"))):
            yield f"{path.name}:{getattr(node, 'lineno', 0)}", node


def module_tree(name):
    return ast.parse((PACKAGE / (name.rpartition(".")[2] + ".py")).read_text("utf-8"))


def defined_names(tree):
    named = [part.name for part in tree.body if isinstance(part, (ast.FunctionDef, ast.ClassDef))]
    return named + [name for part in tree.body if isinstance(part, ast.Assign) for name in bound_names(part.targets[0])]


def drawn_from(tree):
    return {node.module for node in ast.walk(tree) if isinstance(node, ast.ImportFrom)}


def without_docstring(body):
    first = body[0] if body else None
    if isinstance(first, ast.Expr) and isinstance(first.value, ast.Constant) and isinstance(first.value.value, str):
        return body[1:]
    return body


def top_nodes(part):
    return part.targets if isinstance(part, ast.Assign) else [part]


def bound_names(node):
    if isinstance(node, (ast.FunctionDef, ast.ClassDef)):
        return [node.name]
    if isinstance(node, ast.arg):
        return [node.arg]
    if isinstance(node, ast.Name) and isinstance(node.ctx, ast.Store):
        return [node.id]
    if isinstance(node, ast.Attribute) and isinstance(node.ctx, ast.Store):
        return [node.attr]
    if isinstance(node, ast.ImportFrom):
        return [alias.asname or alias.name for alias in node.names]
    return []


def all_bound_names():
    return {name for place, node in nodes() for name in bound_names(node)}


class FormTest(unittest.TestCase):
    def test_files(self):
        self.assertIn("__init__.py", [path.name for path in files()])
        for path in files():
            self.assertRegex(path.name, r"\A[a-z0-9_]+\.py\Z")

    def test_signs_size_and_words(self):
        for path in files():
            text = path.read_text("utf-8")
            self.assertRegex(text, r"\A[ -~\n]*\Z", path.name)
            self.assertIsNone(WORDS.search(text), path.name)
            self.assertLessEqual(text.count("\n"), 400, path.name)
            for line in text.split("\n"):
                self.assertLessEqual(len(line), 120, line)

    def test_kinds_of_nodes(self):
        for place, node in nodes():
            self.assertIn(type(node).__name__, KINDS, place)

    def test_imports_are_from_the_file_that_defines_the_name(self):
        for place, node in nodes():
            if isinstance(node, ast.ImportFrom):
                self.assertEqual(node.level, 0, place)
                self.assertRegex(node.module, r"\Afreshbook\.[a-z0-9_]+\Z", place)
                defined = defined_names(module_tree(node.module))
                for alias in node.names:
                    self.assertIn(alias.name, defined, place)

    def test_no_two_files_draw_from_one_another(self):
        drawn = {f"freshbook.{path.stem}": drawn_from(ast.parse(path.read_text("utf-8"))) for path in files()}
        done = set()
        while len(done) < len(drawn):
            free = {name for name in drawn if name not in done and done.issuperset(drawn[name])}
            self.assertTrue(free, sorted(set(drawn) - done))
            done |= free

    def test_the_top_of_a_file(self):
        for path in files():
            bound = []
            for part in without_docstring(ast.parse(path.read_text("utf-8")).body):
                self.assertIsInstance(part, (ast.ImportFrom, ast.FunctionDef, ast.ClassDef, ast.Assign), path.name)
                bound.extend(name for node in top_nodes(part) for name in bound_names(node))
            self.assertEqual(len(bound), len(set(bound)), path.name)

    def test_functions(self):
        for place, node in nodes():
            if isinstance(node, ast.FunctionDef):
                self.assertLessEqual(node.end_lineno - node.lineno + 1, 40, place)
                self.assertEqual(node.decorator_list, [], place)
            if isinstance(node, ast.arguments):
                extra = (node.vararg, node.kwarg, node.kwonlyargs, node.posonlyargs)
                self.assertEqual(extra, (None, None, [], []), place)

    def test_classes(self):
        for place, node in nodes():
            if isinstance(node, ast.ClassDef):
                self.assertLessEqual(len(node.bases), 1, place)
                self.assertEqual((node.decorator_list, node.keywords), ([], []), place)
                body = without_docstring(node.body)
                for part in body:
                    self.assertIsInstance(part, (ast.FunctionDef, ast.Pass), place)
                methods = [part.name for part in body if isinstance(part, ast.FunctionDef)]
                self.assertEqual(len(methods), len(set(methods)), place)

    def test_no_name_is_a_method_and_a_value(self):
        methods = set()
        given = set()
        for place, node in nodes():
            if isinstance(node, ast.ClassDef):
                methods.update(part.name for part in node.body if isinstance(part, ast.FunctionDef))
            if isinstance(node, ast.Attribute) and isinstance(node.ctx, ast.Store):
                given.add(node.attr)
        self.assertEqual(methods & given, set())
        self.assertEqual(given & set(NOT_AS_VALUES), set())

    def test_errors(self):
        for place, node in nodes():
            if isinstance(node, ast.ExceptHandler):
                self.assertIsNotNone(node.type, place)
                taken = node.type.elts if isinstance(node.type, ast.Tuple) else [node.type]
                for name in taken:
                    self.assertNotIn(name.id, ("Exception", "TypeError"), place)
            if isinstance(node, ast.Raise):
                self.assertIsInstance(node.exc, ast.Call, place)
            if isinstance(node, ast.Try):
                self.assertEqual(node.finalbody, [], place)

    def test_is_stands_beside_none_true_and_false(self):
        for place, node in nodes():
            if isinstance(node, ast.Compare) and any(isinstance(sign, (ast.Is, ast.IsNot)) for sign in node.ops):
                values = [part.value for part in [node.left] + node.comparators if isinstance(part, ast.Constant)]
                self.assertTrue([value for value in values if value is None or isinstance(value, bool)], place)

    def test_keywords(self):
        for place, node in nodes():
            if isinstance(node, ast.Call) and isinstance(node.func, ast.Name) and node.func.id in BUILTINS:
                for keyword in node.keywords:
                    self.assertIn(keyword.arg, KEYWORDS.get(node.func.id, ()), place)

    def test_what_is_walked_on_the_spot_is_not_kept(self):
        for place, node in nodes():
            if isinstance(node, (ast.Assign, ast.Return)) and isinstance(node.value, ast.Call):
                called = node.value.func
                name = called.id if isinstance(called, ast.Name) else getattr(called, "attr", "")
                self.assertNotIn(name, WALKED, place)

    def test_numbers_and_texts(self):
        for place, node in nodes():
            if isinstance(node, ast.BinOp) and isinstance(node.op, ast.Pow):
                self.assertIsInstance(node.right, ast.Constant, place)
            if isinstance(node, ast.Constant) and isinstance(node.value, str):
                self.assertNotIn("%", node.value, place)
            if isinstance(node, ast.FormattedValue):
                self.assertIsInstance(node.value, ast.Name, place)
                self.assertIsNone(node.format_spec, place)

    def test_names_that_are_bound(self):
        for place, node in nodes():
            for name in bound_names(node):
                self.assertTrue(name in METHODS or re.match(r"\A[A-Za-z][A-Za-z0-9_]*\Z", name), f"{place} {name}")
                if not isinstance(node, ast.Attribute):
                    self.assertNotIn(name, dir(builtins), place)

    def test_names_that_are_used(self):
        own = all_bound_names()
        for place, node in nodes():
            if isinstance(node, ast.Name):
                self.assertTrue(node.id in own or node.id in BUILTINS, f"{place} {node.id}")
            if isinstance(node, ast.Attribute):
                known = node.attr in own or node.attr in OWN_METHODS or node.attr in METHODS
                self.assertTrue(known, f"{place} {node.attr}")

    def test_statements_by_themselves_and_targets(self):
        for place, node in nodes():
            if isinstance(node, ast.Expr):
                self.assertIsInstance(node.value, (ast.Call, ast.Constant), place)
            if isinstance(node, ast.Assign):
                self.assertEqual(len(node.targets), 1, place)
            if isinstance(node, (ast.For, ast.While)):
                self.assertEqual(node.orelse, [], place)
            if isinstance(node, ast.Constant):
                self.assertIn(type(node.value), (int, str, bool, type(None)), place)
