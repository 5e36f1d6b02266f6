"""Holds the package's files to the rules of the language that can be seen from the text alone."""

import ast
import builtins
import re
import unittest
from pathlib import Path

PACKAGE = Path(__file__).resolve().parent.parent / "wearplan"
FILES = sorted(PACKAGE.rglob("*.py"))

NODES = set("""
    Module FunctionDef ClassDef Return Assign AugAssign AnnAssign For While If Raise Try Assert ImportFrom Import Expr
    Pass Break Continue Delete ExceptHandler arguments arg keyword alias Lambda Load Store Del
    BoolOp BinOp UnaryOp IfExp Dict Set ListComp DictComp SetComp comprehension Compare Call
    FormattedValue JoinedStr Constant Attribute Subscript Starred Name List Tuple Slice
    And Or Add Sub Mult FloorDiv Mod Pow LShift RShift BitAnd BitOr BitXor Invert Not UAdd USub
    Eq NotEq Lt LtE Gt GtE Is IsNot In NotIn
""".split())
OWN_NAMES = set("""
    len range enumerate zip min max sum abs sorted reversed int str bool bytes list tuple dict set frozenset isinstance
    ord repr any all divmod Exception ValueError TypeError KeyError IndexError LookupError ZeroDivisionError
    ArithmeticError OverflowError RuntimeError NotImplementedError AttributeError StopIteration
""".split())
METHODS = set("""
    append clear copy count endswith extend find get index insert isalnum isalpha isdigit islower isspace isupper items
    join keys ljust lower lstrip partition pop remove replace reverse rfind rjust rpartition rsplit rstrip setdefault
    split splitlines startswith strip update upper values zfill bit_length isascii isdecimal removeprefix removesuffix
    rindex sort __init__
""".split())
DUNDERS = {"__init__", "__eq__", "__repr__", "__str__", "__len__"}
WORDS_OUT = re.compile(
    r"\b(type|typing|typing_extensions|enum|Enum|IntEnum|StrEnum|Flag|IntFlag|Generic|Protocol|ABC|ABCMeta|namedtuple"
    r"|NamedTuple|TypedDict|TYPE_CHECKING|abstractmethod)\b|dataclass|overload|contextmanager")
# What gives something to be walked on the spot, and what may walk it, beside a loop.
WALKED = {"zip", "enumerate", "reversed", "range", "items", "keys", "values"}
WALKERS = {"list", "tuple", "dict", "sorted", "sum", "any", "all", "enumerate", "zip", "bytes", "min", "max", "join"}
PLAIN = re.compile(r"[A-Za-z][A-Za-z0-9_]*")


def nodes_of(path):
    return list(ast.walk(ast.parse(path.read_text())))


def given_names(node):
    """The names that a node gives: to a def, a class, a parameter, a local, a value of an object, a keyword."""
    if isinstance(node, (ast.FunctionDef, ast.ClassDef)):
        return [node.name]
    if isinstance(node, ast.Name) and not isinstance(node.ctx, ast.Load):
        return [node.id]
    if isinstance(node, ast.Attribute) and not isinstance(node.ctx, ast.Load):
        return [node.attr]
    if isinstance(node, (ast.arg, ast.keyword)):
        return [node.arg]
    return []


def drawn_files(path):
    """The package's files from which that file draws names."""
    rows = ast.parse(path.read_text()).body
    return {PACKAGE / (row.module.split(".")[1] + ".py") for row in rows if isinstance(row, ast.ImportFrom)}


def word_of(node):
    """The name by which a call calls, or nothing."""
    called = node.func if isinstance(node, ast.Call) else None
    return getattr(called, "id", getattr(called, "attr", None))


def all_nodes():
    """Every node of the package, with the words that tell where it stands."""
    return [(f"{path.name}, line {getattr(node, 'lineno', 0)}", node) for path in FILES for node in nodes_of(path)]


class FormTest(unittest.TestCase):
    def test_nothing_else_lies_in_the_package(self):
        self.assertIn(PACKAGE / "__init__.py", FILES)
        for path in PACKAGE.iterdir():
            if path.name != "__pycache__":
                self.assertRegex(path.name, r"^([a-z][a-z0-9_]*|__init__)\.py$")

    def test_signs_words_and_sizes(self):
        for path in FILES:
            text = path.read_text()
            with self.subTest(file=path.name):
                self.assertRegex(text, r"\A[ -~\n]*\Z")
                self.assertIsNone(WORDS_OUT.search(text))
                self.assertLessEqual(len(text.splitlines()), 400)
                self.assertLessEqual(max(map(len, text.splitlines())), 120)

    def test_functions_are_short_and_bare(self):
        for where, node in all_nodes():
            if isinstance(node, ast.FunctionDef):
                self.assertLessEqual(node.end_lineno - node.lineno + 1, 40, where)
            if isinstance(node, (ast.FunctionDef, ast.ClassDef)):
                self.assertEqual(node.decorator_list, [], where)
            if isinstance(node, ast.ClassDef):
                self.assertLessEqual(len(node.bases), 1, where)
                self.assertEqual(node.keywords, [], where)
                for row in node.body[1 if ast.get_docstring(node) else 0:]:
                    self.assertIsInstance(row, (ast.FunctionDef, ast.Pass), where)
            if isinstance(node, ast.arguments):
                self.assertEqual((node.vararg, node.kwarg, node.posonlyargs), (None, None, []), where)

    def test_kinds_of_rows_and_values(self):
        for where, node in all_nodes():
            self.assertIn(node.__class__.__name__, NODES, where)
            if isinstance(node, ast.Constant):
                self.assertIsInstance(node.value, (int, str, bytes, type(None), type(...)), where)
                if isinstance(node.value, str):
                    self.assertNotIn("%", node.value, where)
            if isinstance(node, ast.BinOp) and isinstance(node.op, ast.Pow):
                self.assertIsInstance(node.right, ast.Constant, where)
            if isinstance(node, ast.Compare) and any(isinstance(sign, (ast.Is, ast.IsNot)) for sign in node.ops):
                self.assertIn(ast.unparse(node.comparators[-1]), ("None", "True", "False"), where)

    def test_imports(self):
        for path in FILES:
            tree = ast.parse(path.read_text())
            for node in ast.walk(tree):
                with self.subTest(file=path.name, line=getattr(node, "lineno", 0)):
                    self.assertNotIsInstance(node, ast.Import)
                    if isinstance(node, ast.ImportFrom):
                        self.assertIn(node, tree.body)
                        self.assertEqual(node.level, 0)
                        self.assertRegex(node.module, r"^wearplan\.[a-z]+$")
                        source = (PACKAGE / (node.module.split(".")[1] + ".py")).read_text()
                        made = [name for row in ast.parse(source).body for part in [row, *getattr(row, "targets", [])]
                                for name in given_names(part)]
                        for drawn in node.names:
                            self.assertIn(drawn.name, made)

    def test_names(self):
        for where, node in all_nodes():
            for name in given_names(node):
                if name not in DUNDERS:
                    self.assertRegex(name, rf"^{PLAIN.pattern}$", where)
                if not isinstance(node, (ast.Attribute, ast.keyword)):
                    self.assertTrue(name in METHODS or not hasattr(builtins, name), f"{where}: {name}")
            if isinstance(node, ast.Name) and hasattr(builtins, node.id):
                self.assertIn(node.id, OWN_NAMES, where)

    def test_no_files_draw_from_one_another(self):
        left = list(FILES)
        while left:
            free = [path for path in left if not drawn_files(path) & set(left)]
            self.assertTrue(free, left)
            left = [path for path in left if path not in free]

    def test_names_of_a_files_top(self):
        for path in FILES:
            rows = ast.parse(path.read_text()).body
            drawn = [name.name for row in rows if isinstance(row, ast.ImportFrom) for name in row.names]
            made = [name for row in rows for part in [row, *getattr(row, "targets", [])] for name in given_names(part)]
            classes = [row.name for row in rows if isinstance(row, ast.ClassDef)]
            self.assertEqual(len(set(drawn + made)), len(drawn + made), path.name)
            for row in rows:
                within = [node for node in ast.walk(row) if node is not row and not isinstance(node, ast.Attribute)]
                for node in within if isinstance(row, (ast.FunctionDef, ast.ClassDef)) else []:
                    if not isinstance(node, ast.keyword):
                        self.assertFalse(set(given_names(node)) & set(drawn + classes), f"{path.name}: {row.name}")
            for name in drawn:
                uses = [node for node in nodes_of(path) if isinstance(node, ast.Name) and node.id == name]
                self.assertTrue(uses, f"{path.name} draws {name} and does not use it")

    def test_what_is_walked_is_walked_at_once_and_sets_are_not_walked(self):
        for where, node in all_nodes():
            for child in ast.iter_child_nodes(node):
                if word_of(child) in WALKED:
                    self.assertTrue(
                        isinstance(node, (ast.For, ast.comprehension, ast.Compare)) or word_of(node) in WALKERS
                        or (word_of(node) == "reversed" and word_of(child) == "range"), where)
                if isinstance(child, (ast.Set, ast.SetComp)):
                    self.assertTrue(isinstance(node, ast.Compare) or word_of(node) in ("sorted", "len"), where)

    def test_values_and_methods_that_are_asked(self):
        nodes = [node for where, node in all_nodes()]
        methods = {row.name for node in nodes if isinstance(node, ast.ClassDef)
                   for row in node.body if isinstance(row, ast.FunctionDef)}
        values = {node.attr for node in nodes
                  if isinstance(node, ast.Attribute) and isinstance(node.ctx, ast.Store)}
        self.assertEqual(methods & values, set())
        for where, node in all_nodes():
            if isinstance(node, ast.Attribute):
                self.assertIn(node.attr, methods | values | METHODS, where)
                # A class has a method so called: so no set is added to.
                self.assertNotIn(node.attr, ("add", "discard"), where)


if __name__ == "__main__":
    unittest.main()
