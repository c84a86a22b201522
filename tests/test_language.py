"""The rules of the Python subset that a plain look at the package's files can check."""

import ast
import builtins
import re
import unittest
import warnings
from pathlib import Path

PACKAGE = Path(__file__).resolve().parent.parent / "lanescroll"

BARRED_WORDS = re.compile(
    r"\b(type|typing|typing_extensions|enum|Enum|IntEnum|StrEnum|Flag|IntFlag|Generic|Protocol|ABC|ABCMeta"
    r"|namedtuple|NamedTuple|TypedDict|TYPE_CHECKING|abstractmethod)\b|dataclass|overload|contextmanager"
)
FREE_BUILTINS = set(
    "len range enumerate zip min max sum abs sorted reversed int str bool bytes list tuple dict set frozenset "
    "isinstance ord repr any all divmod iter next super property staticmethod classmethod Exception ValueError "
    "TypeError KeyError IndexError LookupError ZeroDivisionError ArithmeticError OverflowError RuntimeError "
    "NotImplementedError AttributeError StopIteration NotImplemented".split()
)
BUILTIN_METHODS = set(
    "append clear copy count endswith extend find get index insert isalnum isalpha isdigit islower isspace isupper "
    "items join keys ljust lower lstrip partition pop remove replace reverse rfind rjust rpartition rsplit rstrip "
    "setdefault split splitlines startswith strip update upper values zfill bit_length add discard isascii".split()
)
FREE_DOUBLES = {"__init__", "__eq__", "__repr__", "__str__", "__len__", "__iter__"}
BARRED_NAMES = set("register mro elements open input law version_info with_traceback add_note".split())
BARRED_NODES = (ast.Import, ast.Global, ast.AsyncFunctionDef, ast.AsyncFor, ast.AsyncWith, ast.Await, ast.Div)
TOP_NODES = (ast.ImportFrom, ast.FunctionDef, ast.ClassDef, ast.Assign, ast.Expr)


def sources():
    """The pairs of a file's path and its text, of all files of the package."""
    return [(path, path.read_text(encoding="utf-8")) for path in sorted(PACKAGE.rglob("*.py"))]


def each_node():
    """The pairs of a place, file and line, and a node there, of all files of the package."""
    for path, text in sources():
        for node in ast.walk(ast.parse(text)):
            yield (path.name, getattr(node, "lineno", None)), node


def bound_names(tree):
    """The names that a file's functions, classes, parameters and assignments bind."""
    for node in ast.walk(tree):
        if isinstance(node, (ast.FunctionDef, ast.ClassDef)):
            yield node.name
        elif isinstance(node, ast.arg):
            yield node.arg
        elif isinstance(node, ast.Name) and isinstance(node.ctx, ast.Store):
            yield node.id


def class_names(kind):
    """The names of all methods, or of all attributes that are assigned, in the package."""
    found = set()
    for place, node in each_node():
        if kind == "methods" and isinstance(node, ast.ClassDef):
            found.update(row.name for row in node.body if isinstance(row, ast.FunctionDef))
        if kind == "attributes" and isinstance(node, ast.Attribute) and isinstance(node.ctx, ast.Store):
            found.add(node.attr)
    return found


def imports(tree):
    """The pairs of a module of the package and a name that a file imports from it."""
    for node in tree.body:
        if isinstance(node, ast.ImportFrom) and node.module != "__future__":
            for name in node.names:
                yield node.module.rpartition(".")[2], name.name


class Files(unittest.TestCase):
    def test_the_folder_has_plain_files_alone(self):
        for path in PACKAGE.rglob("*"):
            if "__pycache__" not in path.parts:
                with self.subTest(path.name):
                    self.assertRegex(path.name, r"^[a-z0-9_]+\.py$")
        self.assertTrue((PACKAGE / "__init__.py").is_file())

    def test_sizes_and_signs(self):
        for path, text in sources():
            lines = text.split("\n")
            with self.subTest(path.name):
                self.assertLessEqual(len(lines), 399)
                self.assertLessEqual(max(map(len, lines)), 120)
                self.assertRegex(text, r"^[ -~\n]*$")

    def test_barred_words(self):
        for path, text in sources():
            with self.subTest(path.name):
                self.assertIsNone(BARRED_WORDS.search(text))

    def test_python_gives_no_warning(self):
        with warnings.catch_warnings():
            warnings.simplefilter("error")
            for path, text in sources():
                with self.subTest(path.name):
                    compile(text, path.name, "exec")


class Code(unittest.TestCase):
    def test_module_level(self):
        for path, text in sources():
            for node in ast.parse(text).body:
                self.assertIsInstance(node, TOP_NODES, (path.name, node.lineno))
                if isinstance(node, ast.Assign):
                    self.assertEqual(len(node.targets), 1)
                    inner = list(ast.walk(node.value))
                    self.assertFalse([part for part in inner if isinstance(part, (ast.Name, ast.Call))], path.name)

    def test_imports_come_from_the_package_by_full_names(self):
        for place, node in each_node():
            if isinstance(node, ast.ImportFrom):
                self.assertEqual(node.level, 0, place)
                self.assertRegex(node.module, r"^(lanescroll\.[a-z0-9_]+|__future__)$", place)
                self.assertNotIn("*", [name.name for name in node.names], place)

    def test_functions_are_short(self):
        for place, node in each_node():
            if isinstance(node, ast.FunctionDef):
                self.assertLessEqual(node.end_lineno - node.lineno + 1, 40, place)

    def test_barred_statements_and_values(self):
        for place, node in each_node():
            self.assertNotIsInstance(node, BARRED_NODES, place)
            if isinstance(node, ast.Constant):
                self.assertNotIsInstance(node.value, (float, complex), place)
                if isinstance(node.value, str):
                    self.assertNotIn("%", node.value, place)

    def test_names_are_plain(self):
        for path, text in sources():
            for name in bound_names(ast.parse(text)):
                self.assertRegex(name, r"^([A-Za-z][A-Za-z0-9_]*|__[a-z]+__)$", path.name)
                self.assertNotIn(name, vars(builtins), path.name)

    def test_only_free_builtins_are_read(self):
        for place, node in each_node():
            if isinstance(node, ast.Name) and node.id in vars(builtins):
                self.assertIn(node.id, FREE_BUILTINS, place)

    def test_no_name_is_a_method_and_an_attribute(self):
        methods, attributes = class_names("methods"), class_names("attributes")
        self.assertEqual(methods & attributes, set())
        self.assertEqual(attributes & (set(dir(int)) | set(dir(str)) | set(dir(list)) | set(dir(dict))), set())

    def test_attributes_that_are_read_are_assigned(self):
        known = class_names("methods") | class_names("attributes") | BUILTIN_METHODS
        for place, node in each_node():
            if isinstance(node, ast.Attribute):
                self.assertIn(node.attr, known, place)

    def test_double_underscore_methods(self):
        for name in class_names("methods"):
            if name.startswith("__"):
                self.assertIn(name, FREE_DOUBLES)

    def test_names_that_are_not_used(self):
        for place, node in each_node():
            for field in ("id", "attr", "arg", "name"):
                self.assertNotIn(getattr(node, field, None), BARRED_NAMES, place)

    def test_is_stands_beside_none_and_truths_alone(self):
        for place, node in each_node():
            if isinstance(node, ast.Compare):
                for sign, right in zip(node.ops, node.comparators):
                    if isinstance(sign, (ast.Is, ast.IsNot)):
                        self.assertIsInstance(right, ast.Constant, place)
                        self.assertTrue(right.value is None or isinstance(right.value, bool), place)

    def test_no_generators_where_a_class_has_its_own_likeness(self):
        for place, node in each_node():
            self.assertNotIsInstance(node, (ast.GeneratorExp, ast.Yield, ast.YieldFrom), place)

    def test_no_local_name_is_that_of_a_class_or_an_import(self):
        for path, text in sources():
            tree = ast.parse(text)
            taken = {name for module, name in imports(tree)}
            taken |= {node.name for node in tree.body if isinstance(node, ast.ClassDef)}
            for function in ast.walk(tree):
                if isinstance(function, ast.FunctionDef):
                    for node in ast.walk(function):
                        name = node.arg if isinstance(node, ast.arg) else None
                        if isinstance(node, ast.Name) and isinstance(node.ctx, ast.Store):
                            name = node.id
                        self.assertNotIn(name, taken, (path.name, function.name))

    def test_module_level_names_are_bound_once(self):
        for path, text in sources():
            tree = ast.parse(text)
            names = [name for module, name in imports(tree)]
            for node in tree.body:
                if isinstance(node, (ast.FunctionDef, ast.ClassDef)):
                    names.append(node.name)
                elif isinstance(node, ast.Assign):
                    names.extend(target.id for target in node.targets)
            self.assertEqual(len(names), len(set(names)), path.name)

    def test_names_are_imported_from_the_file_that_defines_them(self):
        trees = {path.stem: ast.parse(text) for path, text in sources()}
        for stem, tree in trees.items():
            for module, name in imports(tree):
                homes = [node.name for node in trees[module].body if isinstance(node, (ast.FunctionDef, ast.ClassDef))]
                for node in trees[module].body:
                    if isinstance(node, ast.Assign):
                        homes.extend(target.id for target in node.targets)
                self.assertIn(name, homes, stem)
                read = [node for node in ast.walk(tree) if isinstance(node, ast.Name) and node.id == name]
                self.assertTrue(read, (stem, name))

    def test_no_two_files_import_from_each_other(self):
        needs = {path.stem: {module for module, name in imports(ast.parse(text))} for path, text in sources()}
        while needs:
            free = [stem for stem in needs if not needs[stem] & set(needs)]
            self.assertTrue(free, needs)
            for stem in free:
                del needs[stem]


if __name__ == "__main__":
    unittest.main()
