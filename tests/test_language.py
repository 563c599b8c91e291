"""The package's files keep to the part of Python that they are held to, as far as it's plain to see."""

import ast
import builtins
import pathlib
import re
import unittest

import bytemachines

PACKAGE = pathlib.Path(bytemachines.__file__).parent

STATEMENTS = (
    ast.FunctionDef, ast.ClassDef, ast.ImportFrom, ast.Assign, ast.AugAssign, ast.If, ast.While, ast.For, ast.Return,
    ast.Break, ast.Continue, ast.Pass, ast.Raise, ast.Try, ast.Expr,
)
EXPRESSIONS = (
    ast.BoolOp, ast.BinOp, ast.UnaryOp, ast.Lambda, ast.IfExp, ast.Dict, ast.ListComp, ast.Compare, ast.Call,
    ast.Constant, ast.Attribute, ast.Subscript, ast.Name, ast.List, ast.Tuple, ast.Slice, ast.JoinedStr,
    ast.FormattedValue,
)
OWN_NAMES = (
    "len range enumerate zip min max sum abs sorted reversed int str bool list tuple dict set frozenset isinstance "
    "ord repr any all divmod Exception ValueError TypeError KeyError IndexError LookupError ZeroDivisionError "
    "ArithmeticError OverflowError RuntimeError NotImplementedError AttributeError StopIteration"
).split()
METHODS = (
    "append clear copy count endswith extend find get index insert isalnum isalpha isdigit islower isspace isupper "
    "items join keys ljust lower lstrip partition pop remove replace reverse rfind rjust rpartition rsplit rstrip "
    "setdefault split splitlines startswith strip update upper values zfill bit_length"
).split()
BUILT_IN = dir(builtins)
WORDS = (
    r"\b(type|typing|typing_extensions|enum|Enum|IntEnum|StrEnum|Flag|IntFlag|Generic|Protocol|ABC|ABCMeta|namedtuple"
    r"|NamedTuple|TypedDict|TYPE_CHECKING|abstractmethod)\b|dataclass|overload|contextmanager"
)


WALKED = "zip enumerate reversed range items keys values".split()
WALKERS = "list tuple dict sorted sum any all enumerate zip min max".split()
# Own methods and values may not be called like those of Python's own values, but for these.
TAKEN_NAMES = {name for kind in (str, int, list, dict, set, bytes) for name in dir(kind) if not name.startswith("__")}
FREE_METHODS = {"add", "discard", *METHODS}
FREE_VALUES = set("count index title find get join lower upper split strip copy add".split())


def parsed():
    return [(path, ast.parse(path.read_text())) for path in sorted(PACKAGE.glob("*.py"))]


def nodes(kind):
    return [(path, node) for path, tree in parsed() for node in ast.walk(tree) if isinstance(node, kind)]


def called(node):
    """Answer the name by which a call calls."""
    return node.func.attr if isinstance(node.func, ast.Attribute) else getattr(node.func, "id", None)


class LanguageTest(unittest.TestCase):
    def test_only_plain_files(self):
        for path in PACKAGE.iterdir():
            if path.name != "__pycache__":
                self.assertRegex(path.name, r"^(__init__|[a-z][a-z0-9_]*)\.py$")

    def test_sizes_and_signs(self):
        for path in PACKAGE.glob("*.py"):
            text = path.read_text()
            self.assertLessEqual(len(text.splitlines()), 400, path)
            self.assertLessEqual(max(len(line) for line in text.splitlines()), 120, path)
            self.assertRegex(text, r"\A[ -~\n]*\Z")
            self.assertIsNone(re.search(WORDS, text), path)
        for path, node in nodes(ast.FunctionDef):
            self.assertLessEqual(node.end_lineno - node.lineno + 1, 40, (path, node.name))

    def test_statements_and_expressions(self):
        for path, node in nodes(ast.stmt):
            self.assertIsInstance(node, STATEMENTS, (path, node.lineno))
        for path, node in nodes(ast.expr):
            self.assertIsInstance(node, EXPRESSIONS, (path, node.lineno))
        for path, node in nodes((ast.For, ast.While)):
            self.assertEqual(node.orelse, [], (path, node.lineno))
        for path, node in nodes(ast.Assign):
            self.assertEqual(len(node.targets), 1, (path, node.lineno))
        for path, node in nodes(ast.ListComp):
            self.assertEqual(len(node.generators), 1, (path, node.lineno))
            self.assertLessEqual(len(node.generators[0].ifs), 1, (path, node.lineno))
        for path, node in nodes((ast.Div, ast.MatMult)):
            self.fail(path)

    def test_names(self):
        for path, node in nodes(ast.Name):
            self.assertRegex(node.id, r"^[A-Za-z][A-Za-z0-9_]*$", path)
            if node.id in BUILT_IN:
                self.assertIn(node.id, OWN_NAMES, path)
                self.assertIsInstance(node.ctx, ast.Load, path)
        for path, node in nodes(ast.arg):
            self.assertRegex(node.arg, r"^[A-Za-z][A-Za-z0-9_]*$", path)
            self.assertNotIn(node.arg, BUILT_IN, path)

    def test_methods_and_values(self):
        own = {node.name for path, node in nodes(ast.FunctionDef)}
        names = {node.func.attr for path, node in nodes(ast.Call) if isinstance(node.func, ast.Attribute)}
        self.assertLessEqual(names, own | set(METHODS))
        methods = {part.name for path, node in nodes(ast.ClassDef) for part in node.body}
        values = {node.attr for path, node in nodes(ast.Attribute) if isinstance(node.ctx, ast.Store)}
        self.assertEqual(methods & values, set())

    def test_own_methods_and_values_have_free_names(self):
        methods = {part.name for path, node in nodes(ast.ClassDef) for part in node.body} - {"__init__"}
        values = {node.attr for path, node in nodes(ast.Attribute) if isinstance(node.ctx, ast.Store)}
        self.assertEqual(methods & (TAKEN_NAMES - FREE_METHODS), set())
        self.assertEqual(values & (TAKEN_NAMES - FREE_VALUES), set())

    def test_walked_on_the_spot(self):
        for path, tree in parsed():
            on_the_spot = []
            for node in ast.walk(tree):
                if isinstance(node, (ast.For, ast.comprehension)):
                    on_the_spot.append(node.iter)
                if isinstance(node, ast.Call) and called(node) in WALKERS:
                    on_the_spot.extend(node.args[:1])
            for node in ast.walk(tree):
                if isinstance(node, ast.Call) and called(node) in WALKED:
                    self.assertIn(node, on_the_spot, (path, node.lineno))

    def test_sets_are_not_kept(self):
        for path, tree in parsed():
            beside = []
            for node in ast.walk(tree):
                if isinstance(node, ast.Compare):
                    beside.extend([node.left, *node.comparators])
                if isinstance(node, ast.Call) and called(node) in ("sorted", "len"):
                    beside.extend(node.args)
            for node in ast.walk(tree):
                self.assertNotIsInstance(node, (ast.Set, ast.SetComp), path)
                if isinstance(node, ast.Call) and called(node) in ("set", "frozenset"):
                    self.assertIn(node, beside, (path, node.lineno))

    def test_no_powers_and_no_large_numbers(self):
        for path, node in nodes(ast.Pow):
            self.fail(path)
        for path, node in nodes(ast.Constant):
            if isinstance(node.value, int):
                self.assertLessEqual(node.value, 2 ** 64, (path, node.lineno))

    def test_imports_are_the_package_s_own(self):
        for path, node in nodes(ast.ImportFrom):
            self.assertEqual(node.level, 0, path)
            source = PACKAGE / (node.module.removeprefix("bytemachines.") + ".py")
            tops = [part for part in ast.parse(source.read_text()).body if not isinstance(part, ast.ImportFrom)]
            defined = {part.name for part in tops if isinstance(part, (ast.FunctionDef, ast.ClassDef))}
            defined |= {part.targets[0].id for part in tops if isinstance(part, ast.Assign)}
            for name in node.names:
                self.assertIn(name.name, defined, path)


if __name__ == "__main__":
    unittest.main()
