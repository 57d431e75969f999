"""The rules of the language that can be seen in each file by itself."""

import ast
import builtins
import re
import unittest
from pathlib import Path

PACKAGE = Path(__file__).resolve().parent.parent / "markscript"
FILES = sorted(PACKAGE.glob("*.py"))
BARRED = (
    "type typing typing_extensions enum Enum IntEnum StrEnum Flag IntFlag Generic Protocol ABC ABCMeta namedtuple "
    "NamedTuple TypedDict TYPE_CHECKING abstractmethod"
).split()
BUILTINS = (
    "len range enumerate zip min max sum abs sorted reversed int str bool bytes list tuple dict set frozenset isinstance "
    "ord repr any all divmod iter next super Exception ValueError TypeError KeyError IndexError LookupError "
    "ZeroDivisionError ArithmeticError OverflowError RuntimeError NotImplementedError AttributeError StopIteration "
    "NotImplemented"
).split()
DOUBLE_UNDERSCORES = ("__init__",)
METHODS = (
    "append clear copy count endswith extend find get index insert isalnum isalpha isdigit islower isspace isupper items "
    "join keys ljust lower lstrip partition pop remove replace reverse rfind rjust rpartition rsplit rstrip setdefault "
    "split splitlines startswith strip update upper values zfill bit_length isascii isdecimal"
).split()
AT_ONCE = ("zip", "enumerate", "reversed", "range", "items", "keys", "values")
ITERATING = ("list", "tuple", "dict", "sorted", "sum", "any", "all", "enumerate", "zip", "bytes")


def walked(path):
    """All parts of a file."""
    return list(ast.walk(ast.parse(path.read_text(encoding="utf-8"))))


def bound_names(part):
    """The names that a part of a file gives a meaning."""
    if isinstance(part, (ast.FunctionDef, ast.ClassDef)):
        return [part.name]
    if isinstance(part, ast.arg):
        return [part.arg]
    if isinstance(part, ast.Name) and isinstance(part.ctx, ast.Store):
        return [part.id]
    if isinstance(part, ast.MatchAs) and part.name is not None:
        return [part.name]
    return []


class FilesTest(unittest.TestCase):

    def test_the_folder_holds_plain_python_files_alone(self):
        self.assertIn("__init__.py", [path.name for path in FILES])
        for path in PACKAGE.iterdir():
            if path.name != "__pycache__":
                self.assertRegex(path.name, r"^(__init__|[a-z][a-z0-9_]*)\.py$")

    def test_lines_and_characters(self):
        for path in FILES:
            data = path.read_bytes()
            self.assertLessEqual(set(data), {10, *range(32, 127)}, path)
            lines = data.decode("ascii").split("\n")
            self.assertLessEqual(len(lines), 399, path)
            self.assertLessEqual(max(len(line) for line in lines), 120, path)

    def test_functions_have_at_most_forty_lines(self):
        for path in FILES:
            for part in walked(path):
                if isinstance(part, ast.FunctionDef):
                    self.assertLessEqual(part.end_lineno - part.lineno + 1, 40, part.name)

    def test_barred_words_do_not_occur(self):
        for path in FILES:
            text = path.read_text(encoding="utf-8")
            for word in BARRED:
                self.assertIsNone(re.search(rf"\b{word}\b", text), (path, word))
            self.assertIsNone(re.search("dataclass|overload|contextmanager", text), path)


class NamesTest(unittest.TestCase):

    def test_imports_are_from_the_package_alone(self):
        for path in FILES:
            for part in walked(path):
                self.assertNotIsInstance(part, ast.Import, path)
                if isinstance(part, ast.ImportFrom):
                    self.assertTrue(part.module.startswith("markscript."), path)
                    self.assertNotIn("*", [name.name for name in part.names], path)

    def test_names_are_plain_and_no_builtins(self):
        for path in FILES:
            for part in walked(path):
                for name in bound_names(part):
                    self.assertNotIn(name, dir(builtins), path)
                    if name not in DOUBLE_UNDERSCORES:
                        self.assertRegex(name, r"^[A-Za-z][A-Za-z0-9_]*$", path)

    def test_builtins_are_those_of_the_language(self):
        for path in FILES:
            for part in walked(path):
                if isinstance(part, ast.Name) and part.id in dir(builtins):
                    self.assertIn(part.id, BUILTINS, path)

    def test_no_statement_and_no_value_outside_of_the_language(self):
        barred = (ast.Global, ast.AsyncFunctionDef, ast.Await, ast.Div)
        for path in FILES:
            for part in walked(path):
                self.assertNotIsInstance(part, barred, path)
                if isinstance(part, ast.Constant):
                    self.assertNotIsInstance(part.value, (float, complex), path)
                    self.assertNotIn("%", part.value if isinstance(part.value, str) else "", path)


def called_name(part):
    """The name of the function or method that a part of a file calls; None, if it calls none by name."""
    if not isinstance(part, ast.Call):
        return None
    return part.func.id if isinstance(part.func, ast.Name) else getattr(part.func, "attr", None)


def iterated_at_once(tree):
    """The parts of a file that are iterated where they stand."""
    found = []
    for part in ast.walk(tree):
        if isinstance(part, (ast.For, ast.comprehension)):
            found.append(part.iter)
        elif called_name(part) == "reversed" and called_name(part.args[0]) == "range":
            found.append(part.args[0])
        elif called_name(part) in ITERATING and part.args:
            found.extend(part.args if called_name(part) == "zip" else part.args[:1])
    return found


def methods_in(tree):
    """The methods of a file's classes."""
    classes = [part for part in tree.body if isinstance(part, ast.ClassDef)]
    return {part.name for one in classes for part in one.body if isinstance(part, ast.FunctionDef)}


class WholePackageTest(unittest.TestCase):

    TREES = {path.stem: ast.parse(path.read_text(encoding="utf-8")) for path in FILES}

    def test_no_name_is_a_method_and_an_attribute(self):
        methods, attributes = set(), set()
        for tree in self.TREES.values():
            methods |= methods_in(tree)
            stored = [part for part in ast.walk(tree) if isinstance(part, ast.Attribute)]
            attributes |= {part.attr for part in stored if isinstance(part.ctx, ast.Store)}
        self.assertEqual(methods & attributes, set())

    def test_no_name_in_a_function_is_an_import_or_a_class_of_its_file(self):
        for name, tree in self.TREES.items():
            top = {part.name for part in tree.body if isinstance(part, ast.ClassDef)}
            for part in tree.body:
                if isinstance(part, ast.ImportFrom):
                    top |= {one.asname or one.name for one in part.names}
            for part in ast.walk(tree):
                if not isinstance(part, ast.ClassDef):
                    self.assertEqual(set(bound_names(part)) & top, set(), name)

    def test_each_import_names_the_file_that_defines_the_name_and_is_used(self):
        for name, tree in self.TREES.items():
            used = {part.id for part in ast.walk(tree) if isinstance(part, ast.Name)}
            for part in tree.body:
                if isinstance(part, ast.ImportFrom):
                    defined = self.TREES[part.module.partition(".")[2]].body
                    names = [bound for one in defined for bound in bound_names(one)]
                    names += [target.id for one in defined if isinstance(one, ast.Assign) for target in one.targets]
                    for one in part.names:
                        self.assertIn(one.name, names, name)
                        self.assertIn(one.asname or one.name, used, name)

    def test_no_two_files_import_from_each_other(self):
        waiting = {}
        for name, tree in self.TREES.items():
            imports = [part.module for part in tree.body if isinstance(part, ast.ImportFrom)]
            waiting[name] = {module.partition(".")[2] for module in imports}
        while waiting:
            ready = [name for name in waiting if not waiting[name] & set(waiting)]
            self.assertNotEqual(ready, [], waiting)
            for name in ready:
                del waiting[name]

    def test_what_is_iterated_at_once_is_not_stored(self):
        for name, tree in self.TREES.items():
            iterated = [id(part) for part in iterated_at_once(tree)]
            for part in ast.walk(tree):
                if called_name(part) in AT_ONCE:
                    self.assertIn(id(part), iterated, (name, part.lineno))

    def test_methods_are_those_of_the_language_or_own_ones(self):
        own = {method for tree in self.TREES.values() for method in methods_in(tree)}
        for name, tree in self.TREES.items():
            for part in ast.walk(tree):
                if isinstance(part, ast.Call) and isinstance(part.func, ast.Attribute):
                    self.assertIn(part.func.attr, own | set(METHODS), (name, part.lineno))
