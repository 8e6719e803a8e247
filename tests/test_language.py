"""That the package keeps to the part of Python it is to be written in, as far as that is plain to see."""

import ast
import pathlib
import re
import unittest

PACKAGE = pathlib.Path(__file__).resolve().parent.parent / "leftopen"
BUILT_IN = set(dir(__import__("builtins")))
ALLOWED = set(
    "len range enumerate zip min max sum abs sorted reversed int str bool list tuple dict set frozenset isinstance "
    "ord repr any all divmod Exception ValueError TypeError KeyError IndexError LookupError ZeroDivisionError "
    "ArithmeticError OverflowError RuntimeError NotImplementedError AttributeError StopIteration".split()
)
OUT = (
    ast.Import, ast.ImportFrom, ast.With, ast.Match, ast.Delete, ast.Global, ast.Nonlocal, ast.Assert, ast.Yield,
    ast.YieldFrom, ast.AsyncFunctionDef, ast.Await, ast.NamedExpr, ast.Starred, ast.GeneratorExp, ast.SetComp,
    ast.DictComp, ast.Set, ast.Div, ast.AnnAssign, ast.Is, ast.IsNot,
)
METHODS = set(
    "append clear copy count endswith extend find get index insert isalnum isalpha isdigit islower isspace isupper "
    "items join keys ljust lower lstrip partition pop remove replace reverse rfind rjust rpartition rsplit rstrip "
    "setdefault split splitlines startswith strip update upper values zfill bit_length".split()
)
WORDS = re.compile(
    r"\b(type|typing|typing_extensions|enum|Enum|IntEnum|StrEnum|Flag|IntFlag|Generic|Protocol|ABC|ABCMeta"
    r"|namedtuple|NamedTuple|TypedDict|TYPE_CHECKING|abstractmethod)\b|dataclass|overload|contextmanager"
)


def files():
    return sorted(PACKAGE.rglob("*.py"))


def nodes():
    return [node for file in files() for node in ast.walk(ast.parse(file.read_text()))]


class Language(unittest.TestCase):
    def test_the_files(self):
        names = [path.name for path in sorted(PACKAGE.iterdir()) if path.name != "__pycache__"]
        self.assertIn("__init__.py", names)
        for name in names:
            self.assertRegex(name, r"\A(__init__|[a-z][a-z0-9_]*)\.py\Z")

    def test_signs_and_sizes(self):
        for file in files():
            text = file.read_text()
            self.assertRegex(text, r"\A[ -~\n]*\Z")
            self.assertLessEqual(len(text.splitlines()), 400)
            self.assertLessEqual(max(map(len, text.splitlines())), 120)
            self.assertIsNone(WORDS.search(text))
        for node in nodes():
            if isinstance(node, ast.FunctionDef):
                self.assertLessEqual(node.end_lineno - node.lineno + 1, 40, node.name)

    def test_forms_that_are_out(self):
        for node in nodes():
            self.assertNotIsInstance(node, OUT)
            if isinstance(node, (ast.For, ast.While)):
                self.assertEqual(node.orelse, [])
            if isinstance(node, ast.ListComp):
                self.assertEqual(len(node.generators), 1)
            if isinstance(node, ast.Constant):
                self.assertNotIsInstance(node.value, (float, bytes))

    def test_names(self):
        for node in nodes():
            if isinstance(node, ast.Name) and node.id in BUILT_IN:
                self.assertIn(node.id, ALLOWED)
                self.assertIsInstance(node.ctx, ast.Load)
            if isinstance(node, ast.arg):
                self.assertNotIn(node.arg, BUILT_IN)
            if isinstance(node, ast.FunctionDef) and node.name != "__init__":
                self.assertNotIn(node.name, BUILT_IN)
                self.assertFalse(node.name.startswith("_"))

    def test_methods_and_values(self):
        own = [node for node in nodes() if isinstance(node, ast.ClassDef)]
        methods = {item.name for node in own for item in node.body if isinstance(item, ast.FunctionDef)}
        used = [node for node in nodes() if isinstance(node, ast.Attribute)]
        values = {node.attr for node in used if isinstance(node.ctx, ast.Store)}
        pythons = {name for kind in (str, int, list, tuple, dict, set, bytes) for name in dir(kind)}
        self.assertEqual(methods & values, set())
        self.assertEqual((methods | values) & pythons, {"__init__"})
        self.assertLessEqual({node.attr for node in used}, methods | values | METHODS)

    def test_sets_are_not_kept(self):
        inside = [
            call.args[0] for call in nodes()
            if isinstance(call, ast.Call) and getattr(call.func, "id", "") in ("sorted", "len") and not call.keywords
        ]
        straight = [ast.dump(node) for node in inside]
        for node in nodes():
            if isinstance(node, ast.Call) and getattr(node.func, "id", "") == "set":
                self.assertIn(ast.dump(node), straight)
