"""The rules of the language that can be seen in each file by itself."""

import ast
import builtins
import re
import unittest
from pathlib import Path

PACKAGE = Path(__file__).resolve().parent.parent / "markscript"
FILES = sorted(PACKAGE.glob("*.py"))
BARRED = (
    "type typing typing_extensions enum Enum IntEnum StrEnum Flag IntFlag Generic Protocol ABC ABCMeta namedtuple "
    "NamedTuple TypedDict TYPE_CHECKING abstractmethod"
).split()
BUILTINS = (
    "len range enumerate zip min max sum abs sorted reversed int str bool bytes list tuple dict set frozenset isinstance "
    "ord repr any all divmod iter next super Exception ValueError TypeError KeyError IndexError LookupError "
    "ZeroDivisionError ArithmeticError OverflowError RuntimeError NotImplementedError AttributeError StopIteration "
    "NotImplemented"
).split()
DOUBLE_UNDERSCORES = ("__init__",)


def walked(path):
    """All parts of a file."""
    return list(ast.walk(ast.parse(path.read_text(encoding="utf-8"))))


def bound_names(part):
    """The names that a part of a file gives a meaning."""
    if isinstance(part, (ast.FunctionDef, ast.ClassDef)):
        return [part.name]
    if isinstance(part, ast.arg):
        return [part.arg]
    if isinstance(part, ast.Name) and isinstance(part.ctx, ast.Store):
        return [part.id]
    if isinstance(part, ast.MatchAs) and part.name is not None:
        return [part.name]
    return []


class FilesTest(unittest.TestCase):

    def test_the_folder_holds_plain_python_files_alone(self):
        self.assertIn("__init__.py", [path.name for path in FILES])
        for path in PACKAGE.iterdir():
            if path.name != "__pycache__":
                self.assertRegex(path.name, r"^(__init__|[a-z][a-z0-9_]*)\.py$")

    def test_lines_and_characters(self):
        for path in FILES:
            data = path.read_bytes()
            self.assertLessEqual(set(data), {10, *range(32, 127)}, path)
            lines = data.decode("ascii").split("\n")
            self.assertLessEqual(len(lines), 399, path)
            self.assertLessEqual(max(len(line) for line in lines), 120, path)

    def test_functions_have_at_most_forty_lines(self):
        for path in FILES:
            for part in walked(path):
                if isinstance(part, ast.FunctionDef):
                    self.assertLessEqual(part.end_lineno - part.lineno + 1, 40, part.name)

    def test_barred_words_do_not_occur(self):
        for path in FILES:
            text = path.read_text(encoding="utf-8")
            for word in BARRED:
                self.assertIsNone(re.search(rf"\b{word}\b", text), (path, word))
            self.assertIsNone(re.search("dataclass|overload|contextmanager", text), path)


class NamesTest(unittest.TestCase):

    def test_imports_are_from_the_package_alone(self):
        for path in FILES:
            for part in walked(path):
                self.assertNotIsInstance(part, ast.Import, path)
                if isinstance(part, ast.ImportFrom):
                    self.assertTrue(part.module.startswith("markscript."), path)
                    self.assertNotIn("*", [name.name for name in part.names], path)

    def test_names_are_plain_and_no_builtins(self):
        for path in FILES:
            for part in walked(path):
                for name in bound_names(part):
                    self.assertNotIn(name, dir(builtins), path)
                    if name not in DOUBLE_UNDERSCORES:
                        self.assertRegex(name, r"^[A-Za-z][A-Za-z0-9_]*$", path)

    def test_builtins_are_those_of_the_language(self):
        for path in FILES:
            for part in walked(path):
                if isinstance(part, ast.Name) and part.id in dir(builtins):
                    self.assertIn(part.id, BUILTINS, path)

    def test_no_statement_and_no_value_outside_of_the_language(self):
        barred = (ast.Global, ast.AsyncFunctionDef, ast.Await, ast.Div)
        for path in FILES:
            for part in walked(path):
                self.assertNotIsInstance(part, barred, path)
                if isinstance(part, ast.Constant):
                    self.assertNotIsInstance(part.value, (float, complex), path)
                    self.assertNotIn("%", part.value if isinstance(part.value, str) else "", path)
