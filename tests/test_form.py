"""Holds the package's files against the rules of form that a reading of the source can see."""

import ast
import builtins
import re
import unittest
from pathlib import Path

PACKAGE = Path(__file__).resolve().parent.parent / "contactways"

NAMES = set(
    "len range enumerate zip min max sum abs sorted reversed int str bool list tuple dict set frozenset isinstance ord repr"
    " any all divmod Exception ValueError TypeError KeyError IndexError LookupError ZeroDivisionError ArithmeticError"
    " OverflowError RuntimeError NotImplementedError AttributeError StopIteration".split()
)
METHODS = set(
    "append clear copy count endswith extend find get index insert isalnum isalpha isdigit islower isspace isupper items"
    " join keys ljust lower lstrip partition pop remove replace reverse rfind rjust rpartition rsplit rstrip setdefault"
    " split splitlines startswith strip update upper values zfill bit_length".split()
)
NEVER = re.compile(
    r"\b(type|typing|typing_extensions|enum|Enum|IntEnum|StrEnum|Flag|IntFlag|Generic|Protocol|ABC|ABCMeta|namedtuple"
    r"|NamedTuple|TypedDict|TYPE_CHECKING|abstractmethod)\b|dataclass|overload|contextmanager"
)
NOT_VALUES = set("items keys values pop update append clear extend insert remove reverse setdefault sort args encode format".split())
UNUSED = set("register mro elements open input version_info with_traceback add_note format format_map".split())
NODES = (
    ast.With, ast.Match, ast.Delete, ast.Global, ast.Nonlocal, ast.Assert, ast.Yield, ast.YieldFrom, ast.AsyncFunctionDef,
    ast.Await, ast.Import, ast.SetComp, ast.DictComp, ast.GeneratorExp, ast.NamedExpr, ast.Starred, ast.Div, ast.MatMult,
    ast.AnnAssign, ast.Set,
)


def files():
    return sorted(PACKAGE.rglob("*.py"))


def nodes(path):
    return list(ast.walk(ast.parse(path.read_text())))


def bound_names(tree):
    bound = set()
    for node in tree:
        if isinstance(node, (ast.FunctionDef, ast.ClassDef)):
            bound.add(node.name)
        if isinstance(node, ast.arg):
            bound.add(node.arg)
        if isinstance(node, ast.ImportFrom):
            bound.update([alias.name for alias in node.names])
        if isinstance(node, ast.Name) and isinstance(node.ctx, ast.Store):
            bound.add(node.id)
    return bound


class Form(unittest.TestCase):
    def test_only_plain_files(self):
        for path in PACKAGE.rglob("*"):
            if "__pycache__" not in path.parts:
                self.assertRegex(path.name, r"^(__init__|[a-z][a-z0-9_]*)\.py$")

    def test_signs_and_sizes(self):
        for path in files():
            text = path.read_bytes().decode("ascii")
            self.assertRegex(text, r"^[ -~\n]*$", path)
            self.assertIsNone(NEVER.search(text), path)
            lines = text.split("\n")
            self.assertLessEqual(len(lines), 400, path)
            self.assertLessEqual(max([len(line) for line in lines]), 120, path)
            for node in nodes(path):
                if isinstance(node, ast.FunctionDef):
                    self.assertLessEqual(node.end_lineno - node.lineno + 1, 40, (path, node.name))
                    self.assertEqual(node.decorator_list, [], (path, node.name))

    def test_statements_and_expressions(self):
        for path in files():
            for node in nodes(path):
                self.assertNotIsInstance(node, NODES, (path, getattr(node, "lineno", 0)))
                if isinstance(node, (ast.For, ast.While)):
                    self.assertEqual(node.orelse, [], (path, node.lineno))
                if isinstance(node, ast.Constant):
                    self.assertNotIsInstance(node.value, (float, bytes), (path, node.lineno))
                if isinstance(node, ast.Assign):
                    self.assertEqual(len(node.targets), 1, (path, node.lineno))
                    self.assertIsInstance(node.targets[0], (ast.Name, ast.Attribute, ast.Subscript), (path, node.lineno))

    def test_imports(self):
        for path in files():
            for node in nodes(path):
                if isinstance(node, ast.ImportFrom):
                    self.assertEqual(node.level, 0, path)
                    self.assertTrue(node.module.startswith("contactways."), path)
                    self.assertTrue(all([alias.asname is None and alias.name != "*" for alias in node.names]), path)

    def test_top_of_files(self):
        for path in files():
            for node in ast.parse(path.read_text()).body:
                self.assertIsInstance(node, (ast.Expr, ast.ImportFrom, ast.FunctionDef, ast.ClassDef, ast.Assign), path)
                if isinstance(node, ast.Assign):
                    ast.literal_eval(node.value)

    def test_names(self):
        for path in files():
            tree = nodes(path)
            bound = bound_names(tree)
            self.assertEqual(sorted(bound & (UNUSED | set(dir(builtins)))), [], path)
            self.assertEqual([name for name in sorted(bound) if name.startswith("_") and name != "__init__"], [], path)
            used = set([node.id for node in tree if isinstance(node, ast.Name)])
            self.assertEqual(sorted(used - bound - NAMES), [], path)

    def test_sets_and_views_are_used_on_the_spot(self):
        for path in files():
            tree = nodes(path)
            fine = set([id(node.iter) for node in tree if isinstance(node, (ast.For, ast.comprehension))])
            sets = set()
            for node in tree:
                if isinstance(node, ast.Call) and isinstance(node.func, ast.Name) and node.keywords == []:
                    if node.func.id in ("sorted", "len"):
                        sets.update([id(part) for part in node.args])
                    if node.func.id in ("list", "tuple", "dict", "sorted", "sum", "any", "all", "enumerate", "zip", "min", "max"):
                        fine.update([id(part) for part in node.args[:1]])
            for node in tree:
                if isinstance(node, ast.Call) and isinstance(node.func, ast.Name):
                    if node.func.id in ("set", "frozenset"):
                        self.assertIn(id(node), sets, (path, node.lineno))
                    if node.func.id in ("zip", "enumerate", "reversed", "range"):
                        self.assertIn(id(node), fine, (path, node.lineno))
                if isinstance(node, ast.Call) and isinstance(node.func, ast.Attribute):
                    if node.func.attr in ("items", "keys", "values"):
                        self.assertIn(id(node), fine, (path, node.lineno))

    def test_attributes(self):
        methods = set()
        stored = set()
        read = set()
        for path in files():
            for node in nodes(path):
                if isinstance(node, ast.ClassDef):
                    methods.update([part.name for part in node.body if isinstance(part, ast.FunctionDef)])
                if isinstance(node, ast.Attribute):
                    (stored if isinstance(node.ctx, ast.Store) else read).add(node.attr)
        self.assertEqual(sorted(methods & stored), [])
        self.assertEqual(sorted(stored & NOT_VALUES), [])
        taken = set([name for kind in (str, int, list, dict, set, bytes) for name in dir(kind)])
        self.assertEqual(sorted((methods | stored) & taken - METHODS - {"__init__"}), [])
        self.assertEqual(sorted((read | methods | stored) & UNUSED), [])
        self.assertEqual(sorted(read - methods - stored - METHODS), [])


if __name__ == "__main__":
    unittest.main()
