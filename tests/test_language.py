"""The rules of the written language that can be seen file by file."""

import ast
import builtins
import pathlib
import re
import unittest

import formkeepdesk

FOLDER = pathlib.Path(formkeepdesk.__file__).parent
MOST_FILE_LINES = 400
MOST_FUNCTION_LINES = 40
MOST_LINE_SIGNS = 120

BANNED_WORDS = re.compile(
    r"\b(type|typing|typing_extensions|enum|Enum|IntEnum|StrEnum|Flag|IntFlag|Generic|Protocol|ABC|ABCMeta"
    r"|namedtuple|NamedTuple|TypedDict|TYPE_CHECKING|abstractmethod)\b|dataclass|overload|contextmanager"
)

BUILT_IN = set(
    "len range enumerate zip min max sum abs sorted reversed int str bool list tuple dict set frozenset"
    " isinstance ord repr any all divmod Exception ValueError TypeError KeyError IndexError LookupError"
    " ZeroDivisionError ArithmeticError OverflowError RuntimeError NotImplementedError AttributeError"
    " StopIteration".split()
)

METHODS = set(
    "append clear copy count endswith extend find get index insert isalnum isalpha isdigit islower isspace"
    " isupper items join keys ljust lower lstrip partition pop remove replace reverse rfind rjust rpartition"
    " rsplit rstrip setdefault split splitlines startswith strip update upper values zfill bit_length".split()
)

BANNED_NODES = (
    ast.AnnAssign, ast.Assert, ast.AsyncFor, ast.AsyncFunctionDef, ast.AsyncWith, ast.Await, ast.Delete,
    ast.DictComp, ast.Div, ast.GeneratorExp, ast.Global, ast.Import, ast.MatMult, ast.Match, ast.NamedExpr,
    ast.Nonlocal, ast.SetComp, ast.Starred, ast.With, ast.Yield, ast.YieldFrom,
)


def sources():
    for path in sorted(FOLDER.rglob("*.py")):
        yield path.name, path.read_text(encoding="utf-8")


def nodes():
    for name, text in sources():
        for node in ast.walk(ast.parse(text)):
            yield name, node


class Files(unittest.TestCase):
    def test_only_plain_files_lie_in_the_package(self):
        for path in FOLDER.rglob("*"):
            if "__pycache__" not in path.parts:
                self.assertTrue(path.is_file(), path)
                self.assertRegex(path.name, r"^[a-z0-9_]+\.py$")

    def test_signs_and_sizes(self):
        for name, text in sources():
            self.assertRegex(text, r"^[ -~\n]*$", name)
            self.assertLessEqual(len(text.splitlines()), MOST_FILE_LINES, name)
            for line in text.splitlines():
                self.assertLessEqual(len(line), MOST_LINE_SIGNS, (name, line))

    def test_words_that_stand_nowhere(self):
        for name, text in sources():
            self.assertIsNone(BANNED_WORDS.search(text), name)

    def test_top_of_each_module(self):
        allowed = (ast.Assign, ast.ClassDef, ast.FunctionDef, ast.ImportFrom)
        for name, text in sources():
            tree = ast.parse(text)
            self.assertIsNotNone(ast.get_docstring(tree), name)
            for node in tree.body[1:]:
                self.assertIsInstance(node, allowed, name)


class Code(unittest.TestCase):
    def test_statements_and_expressions(self):
        for name, node in nodes():
            place = (name, getattr(node, "lineno", None))
            self.assertNotIsInstance(node, BANNED_NODES, place)
            if isinstance(node, (ast.For, ast.While, ast.Try)):
                self.assertFalse(getattr(node, "finalbody", []), place)
            if isinstance(node, (ast.For, ast.While)):
                self.assertFalse(node.orelse, place)
            if isinstance(node, ast.Assign):
                self.assertEqual(len(node.targets), 1, place)
            if isinstance(node, ast.Constant):
                self.assertNotIsInstance(node.value, (float, complex, bytes), place)
            if isinstance(node, ast.ListComp):
                self.assertEqual(len(node.generators), 1, place)
                self.assertLessEqual(len(node.generators[0].ifs), 1, place)
            if isinstance(node, ast.ImportFrom):
                self.assertEqual(node.level, 0, place)
                self.assertTrue(node.module.startswith("formkeepdesk."), place)

    def test_functions(self):
        for name, node in nodes():
            if isinstance(node, ast.FunctionDef):
                place = (name, node.name)
                self.assertLessEqual(node.end_lineno - node.lineno + 1, MOST_FUNCTION_LINES, place)
                self.assertFalse(node.decorator_list, place)
                given = node.args
                self.assertFalse(given.vararg or given.kwarg or given.kwonlyargs or given.posonlyargs, place)

    def test_names(self):
        for name, node in nodes():
            place = (name, getattr(node, "lineno", None))
            for word in bound_words(node):
                self.assertRegex(word, r"^[A-Za-z][A-Za-z0-9_]*$", place)
                self.assertFalse(hasattr(builtins, word), place)
            if isinstance(node, ast.Name) and isinstance(node.ctx, ast.Load) and hasattr(builtins, node.id):
                self.assertIn(node.id, BUILT_IN, place)
            if isinstance(node, ast.Call) and isinstance(node.func, ast.Attribute):
                self.assertIn(node.func.attr, METHODS, place)


def bound_words(node):
    if isinstance(node, ast.Name) and isinstance(node.ctx, ast.Store):
        return [node.id]
    if isinstance(node, ast.FunctionDef):
        return [node.name]
    if isinstance(node, ast.arg):
        return [node.arg]
    return []
