"""The rules of the Python subset that a plain look at the package's files can check."""

import ast
import builtins
import re
import unittest
import warnings
from pathlib import Path

PACKAGE = Path(__file__).resolve().parent.parent / "lanescroll"

BARRED_WORDS = re.compile(
    r"\b(type|typing|typing_extensions|enum|Enum|IntEnum|StrEnum|Flag|IntFlag|Generic|Protocol|ABC|ABCMeta"
    r"|namedtuple|NamedTuple|TypedDict|TYPE_CHECKING|abstractmethod)\b|dataclass|overload|contextmanager"
)
FREE_BUILTINS = set(
    "len range enumerate zip min max sum abs sorted reversed int str bool bytes list tuple dict set frozenset "
    "isinstance ord repr any all divmod iter next super property staticmethod classmethod Exception ValueError "
    "TypeError KeyError IndexError LookupError ZeroDivisionError ArithmeticError OverflowError RuntimeError "
    "NotImplementedError AttributeError StopIteration NotImplemented".split()
)
BARRED_NODES = (ast.Import, ast.Global, ast.AsyncFunctionDef, ast.AsyncFor, ast.AsyncWith, ast.Await, ast.Div)
TOP_NODES = (ast.ImportFrom, ast.FunctionDef, ast.ClassDef, ast.Assign, ast.Expr)


def sources():
    """The pairs of a file's path and its text, of all files of the package."""
    return [(path, path.read_text(encoding="utf-8")) for path in sorted(PACKAGE.rglob("*.py"))]


def each_node():
    """The pairs of a place, file and line, and a node there, of all files of the package."""
    for path, text in sources():
        for node in ast.walk(ast.parse(text)):
            yield (path.name, getattr(node, "lineno", None)), node


def bound_names(tree):
    """The names that a file's functions, classes, parameters and assignments bind."""
    for node in ast.walk(tree):
        if isinstance(node, (ast.FunctionDef, ast.ClassDef)):
            yield node.name
        elif isinstance(node, ast.arg):
            yield node.arg
        elif isinstance(node, ast.Name) and isinstance(node.ctx, ast.Store):
            yield node.id


class Files(unittest.TestCase):
    def test_the_folder_has_plain_files_alone(self):
        for path in PACKAGE.rglob("*"):
            if "__pycache__" not in path.parts:
                with self.subTest(path.name):
                    self.assertRegex(path.name, r"^[a-z0-9_]+\.py$")
        self.assertTrue((PACKAGE / "__init__.py").is_file())

    def test_sizes_and_signs(self):
        for path, text in sources():
            lines = text.split("\n")
            with self.subTest(path.name):
                self.assertLessEqual(len(lines), 399)
                self.assertLessEqual(max(map(len, lines)), 120)
                self.assertRegex(text, r"^[ -~\n]*$")

    def test_barred_words(self):
        for path, text in sources():
            with self.subTest(path.name):
                self.assertIsNone(BARRED_WORDS.search(text))

    def test_python_gives_no_warning(self):
        with warnings.catch_warnings():
            warnings.simplefilter("error")
            for path, text in sources():
                with self.subTest(path.name):
                    compile(text, path.name, "exec")


class Code(unittest.TestCase):
    def test_module_level(self):
        for path, text in sources():
            for node in ast.parse(text).body:
                self.assertIsInstance(node, TOP_NODES, (path.name, node.lineno))

    def test_imports_come_from_the_package_by_full_names(self):
        for place, node in each_node():
            if isinstance(node, ast.ImportFrom):
                self.assertEqual(node.level, 0, place)
                self.assertRegex(node.module, r"^(lanescroll\.[a-z0-9_]+|__future__)$", place)
                self.assertNotIn("*", [name.name for name in node.names], place)

    def test_functions_are_short(self):
        for place, node in each_node():
            if isinstance(node, ast.FunctionDef):
                self.assertLessEqual(node.end_lineno - node.lineno + 1, 40, place)

    def test_barred_statements_and_values(self):
        for place, node in each_node():
            self.assertNotIsInstance(node, BARRED_NODES, place)
            if isinstance(node, ast.Constant):
                self.assertNotIsInstance(node.value, (float, complex), place)
                if isinstance(node.value, str):
                    self.assertNotIn("%", node.value, place)

    def test_names_are_plain(self):
        for path, text in sources():
            for name in bound_names(ast.parse(text)):
                self.assertRegex(name, r"^([A-Za-z][A-Za-z0-9_]*|__[a-z]+__)$", path.name)
                self.assertNotIn(name, vars(builtins), path.name)

    def test_only_free_builtins_are_read(self):
        for place, node in each_node():
            if isinstance(node, ast.Name) and node.id in vars(builtins):
                self.assertIn(node.id, FREE_BUILTINS, place)


if __name__ == "__main__":
    unittest.main()
