"""That the package keeps to the part of Python it is to be written in, as far as that is plain to see."""

import ast
import pathlib
import re
import unittest

PACKAGE = pathlib.Path(__file__).resolve().parent.parent / "leftopen"
BUILT_IN = set(dir(__import__("builtins")))
ALLOWED = set(
    "len range enumerate zip min max sum abs sorted reversed int str bool list tuple dict set frozenset isinstance "
    "ord repr any all divmod Exception ValueError TypeError KeyError IndexError LookupError ZeroDivisionError "
    "ArithmeticError OverflowError RuntimeError NotImplementedError AttributeError StopIteration".split()
)
OUT = (
    ast.Import, ast.ImportFrom, ast.With, ast.Match, ast.Delete, ast.Global, ast.Nonlocal, ast.Assert, ast.Yield,
    ast.YieldFrom, ast.AsyncFunctionDef, ast.Await, ast.NamedExpr, ast.Starred, ast.GeneratorExp, ast.SetComp,
    ast.DictComp, ast.Set, ast.Div, ast.AnnAssign, ast.Is, ast.IsNot,
)
WORDS = re.compile(
    r"\b(type|typing|typing_extensions|enum|Enum|IntEnum|StrEnum|Flag|IntFlag|Generic|Protocol|ABC|ABCMeta"
    r"|namedtuple|NamedTuple|TypedDict|TYPE_CHECKING|abstractmethod)\b|dataclass|overload|contextmanager"
)


def files():
    return sorted(PACKAGE.rglob("*.py"))


def nodes():
    return [node for file in files() for node in ast.walk(ast.parse(file.read_text()))]


class Language(unittest.TestCase):
    def test_the_files(self):
        names = [path.name for path in sorted(PACKAGE.iterdir()) if path.name != "__pycache__"]
        self.assertIn("__init__.py", names)
        for name in names:
            self.assertRegex(name, r"\A(__init__|[a-z][a-z0-9_]*)\.py\Z")

    def test_signs_and_sizes(self):
        for file in files():
            text = file.read_text()
            self.assertRegex(text, r"\A[ -~\n]*\Z")
            self.assertLessEqual(len(text.splitlines()), 400)
            self.assertLessEqual(max(map(len, text.splitlines())), 120)
            self.assertIsNone(WORDS.search(text))
        for node in nodes():
            if isinstance(node, ast.FunctionDef):
                self.assertLessEqual(node.end_lineno - node.lineno + 1, 40, node.name)

    def test_forms_that_are_out(self):
        for node in nodes():
            self.assertNotIsInstance(node, OUT)
            if isinstance(node, (ast.For, ast.While)):
                self.assertEqual(node.orelse, [])
            if isinstance(node, ast.ListComp):
                self.assertEqual(len(node.generators), 1)
            if isinstance(node, ast.Constant):
                self.assertNotIsInstance(node.value, (float, bytes))

    def test_names(self):
        for node in nodes():
            if isinstance(node, ast.Name) and node.id in BUILT_IN:
                self.assertIn(node.id, ALLOWED)
                self.assertIsInstance(node.ctx, ast.Load)
            if isinstance(node, ast.arg):
                self.assertNotIn(node.arg, BUILT_IN)
            if isinstance(node, ast.FunctionDef) and node.name != "__init__":
                self.assertNotIn(node.name, BUILT_IN)
                self.assertFalse(node.name.startswith("_"))
