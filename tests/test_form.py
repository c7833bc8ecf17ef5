"""The form of the package's files, as far as it can be read off them simply."""

import ast
import builtins
import re
import unittest
from pathlib import Path

TOP = Path(__file__).resolve().parent.parent
PACKAGE = TOP / "lateknow"
FILES = sorted(PACKAGE.rglob("*.py"))

OWN_NAMES = set(
    "len range enumerate zip min max sum abs sorted reversed int str bool list tuple dict set frozenset isinstance "
    "ord repr any all divmod Exception ValueError TypeError KeyError IndexError LookupError ZeroDivisionError "
    "ArithmeticError OverflowError RuntimeError NotImplementedError AttributeError StopIteration".split())
OWN_METHODS = set(
    "append clear copy count endswith extend find get index insert isalnum isalpha isdigit islower isspace isupper "
    "items join keys ljust lower lstrip partition pop remove replace reverse rfind rjust rpartition rsplit rstrip "
    "setdefault split splitlines startswith strip update upper values zfill bit_length".split())
FOREIGN_METHODS = set(
    name for kind in (str, int, list, tuple, dict, set, frozenset, bytes) for name in dir(kind)) - OWN_METHODS - {"add"}
NO_NODES = (
    ast.With, ast.Match, ast.Delete, ast.Global, ast.Nonlocal, ast.Assert, ast.Yield, ast.YieldFrom, ast.Await,
    ast.AsyncFunctionDef, ast.AsyncFor, ast.AsyncWith, ast.Import, ast.SetComp, ast.DictComp, ast.GeneratorExp,
    ast.NamedExpr, ast.Starred, ast.Div, ast.MatMult, ast.AnnAssign, ast.Set)
NO_NAMES = set(
    "register mro elements open input version_info with_traceback add_note attrgetter breakpoint builtins compile "
    "copyright credits delattr dir eval exec exit gc getattr globals hasattr help id importlib license locals "
    "methodcaller os quit setattr super type vars sys chr print format format_map".split())
NO_WORDS = re.compile(
    r"\b(type|typing|typing_extensions|enum|Enum|IntEnum|StrEnum|Flag|IntFlag|Generic|Protocol|ABC|ABCMeta|namedtuple"
    r"|NamedTuple|TypedDict|TYPE_CHECKING|abstractmethod)\b|dataclass|overload|contextmanager")
TWO_UNDERSCORES = ("__init__", "__eq__", "__repr__", "__str__", "__len__")


def trees():
    return [(path, ast.parse(path.read_text())) for path in FILES]


def nodes():
    return [(path, node) for path, tree in trees() for node in ast.walk(tree)]


def names_of(node):
    """The names that a node writes down."""
    if isinstance(node, ast.Name):
        return [node.id]
    if isinstance(node, ast.Attribute):
        return [node.attr]
    if isinstance(node, (ast.FunctionDef, ast.ClassDef)):
        return [node.name]
    if isinstance(node, ast.arg):
        return [node.arg]
    if isinstance(node, ast.alias):
        return [node.name, node.asname or node.name]
    return []


def bound_names(tree):
    """All names that a file binds anywhere."""
    found = set()
    for node in ast.walk(tree):
        if not isinstance(node, (ast.Name, ast.Attribute)) or isinstance(node.ctx, ast.Store):
            found.update(names_of(node))
    return found


class FormTest(unittest.TestCase):
    def test_files(self):
        self.assertIn(PACKAGE / "__init__.py", FILES)
        for path in PACKAGE.rglob("*"):
            if "__pycache__" not in path.parts:
                self.assertRegex(path.name, r"\A[a-z0-9_]+\.py\Z")
                self.assertNotRegex(path.name, r"\A(test|site|conftest)")

    def test_signs_and_size(self):
        for path in FILES:
            text = path.read_text()
            self.assertNotRegex(text, r"[^ -~\n]", path)
            self.assertIsNone(NO_WORDS.search(text), path)
            self.assertLessEqual(len(text.split("\n")), 400, path)
            self.assertLessEqual(max(len(line) for line in text.split("\n")), 120, path)

    def test_functions(self):
        for path, node in nodes():
            if isinstance(node, ast.FunctionDef):
                self.assertLessEqual(node.end_lineno - node.lineno + 1, 40, (path, node.name))
                self.assertEqual(node.decorator_list, [])
                self.assertIsNone(node.args.vararg or node.args.kwarg)
                self.assertEqual(node.args.kwonlyargs + node.args.posonlyargs, [])

    def test_classes(self):
        for path, tree in trees():
            for node in ast.walk(tree):
                if isinstance(node, ast.ClassDef):
                    self.assertIn(node, tree.body)
                    self.assertLessEqual(len(node.bases), 1)
                    self.assertEqual(node.decorator_list + node.keywords, [])
                    for inner in node.body:
                        self.assertTrue(isinstance(inner, ast.FunctionDef) or self.is_docstring(inner), path)

    def is_docstring(self, node):
        return isinstance(node, ast.Expr) and isinstance(node.value, ast.Constant) and isinstance(node.value.value, str)

    def test_no_name_is_a_method_here_and_a_value_there(self):
        methods = set()
        for path, node in nodes():
            if isinstance(node, ast.ClassDef):
                methods.update(inner.name for inner in node.body if isinstance(inner, ast.FunctionDef))
        values = set(node.attr for path, node in nodes()
                     if isinstance(node, ast.Attribute) and isinstance(node.ctx, ast.Store))
        self.assertEqual(methods & values, set())
        self.assertEqual((methods | values) & FOREIGN_METHODS - set(TWO_UNDERSCORES), set())

    def test_imports(self):
        for path, tree in trees():
            for node in ast.walk(tree):
                if isinstance(node, ast.ImportFrom):
                    self.assertIn(node, tree.body, path)
                    self.assertEqual(node.level, 0, path)
                    self.assertTrue((TOP / (node.module.replace(".", "/") + ".py")).is_file(), node.module)
                    source = ast.parse((TOP / (node.module.replace(".", "/") + ".py")).read_text())
                    defined = [name for inner in source.body for name in names_of(inner)]
                    for alias in node.names:
                        self.assertIn(alias.name, defined, path)

    def test_nodes(self):
        for path, node in nodes():
            self.assertNotIsInstance(node, NO_NODES, path)
            if isinstance(node, (ast.For, ast.While)):
                self.assertEqual(node.orelse, [], path)
            if isinstance(node, ast.Try):
                self.assertEqual(node.finalbody, [], path)
            if isinstance(node, ast.Assign):
                self.assertEqual(len(node.targets), 1, path)
            if isinstance(node, ast.Constant):
                self.assertNotIsInstance(node.value, (float, complex, bytes), path)
            if isinstance(node, ast.ListComp):
                self.assertEqual(len(node.generators), 1, path)
                self.assertLessEqual(len(node.generators[0].ifs), 1, path)

    def test_names(self):
        for path, node in nodes():
            for name in names_of(node):
                if name not in TWO_UNDERSCORES:
                    self.assertRegex(name, r"\A[A-Za-z][A-Za-z0-9_.]*\Z", path)
                    self.assertNotIn(name, NO_NAMES, path)

    def test_pythons_own_names(self):
        for path, tree in trees():
            bound = bound_names(tree)
            used = set(node.id for node in ast.walk(tree) if isinstance(node, ast.Name))
            self.assertEqual(used - bound - OWN_NAMES, set(), path)
            for node in ast.walk(tree):
                if isinstance(node, ast.arg) or isinstance(node, ast.Name) and isinstance(node.ctx, ast.Store):
                    self.assertNotIn(names_of(node)[0], dir(builtins), path)


if __name__ == "__main__":
    unittest.main()
