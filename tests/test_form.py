"""The form of the package: what can be seen of ../shared/LANGUAGE.md by reading the source."""

import ast
import re
import unittest
from pathlib import Path

PACKAGE = Path(__file__).resolve().parent.parent / "twosetsums"

BUILTINS = set("""len range enumerate zip min max sum abs sorted reversed int str bool bytes list tuple dict set
    frozenset isinstance ord repr any all divmod Exception ValueError TypeError KeyError IndexError LookupError
    ZeroDivisionError ArithmeticError OverflowError RuntimeError NotImplementedError AttributeError StopIteration
    NotImplemented""".split())

BARRED_WORDS = set("""type typing typing_extensions enum Enum IntEnum StrEnum Flag IntFlag Generic Protocol ABC
    ABCMeta namedtuple NamedTuple TypedDict TYPE_CHECKING abstractmethod""".split())

BARRED_PARTS = ("dataclass", "overload", "contextmanager")

BARRED_NAMES = set("""register mro elements open input version_info with_traceback add_note attrgetter breakpoint
    builtins compile copyright credits delattr dir eval exec exit gc getattr globals hasattr help id importlib
    license locals methodcaller os quit setattr super type vars sys""".split())

METHODS = set("""append clear copy count endswith extend find get index insert isalnum isalpha isdigit islower isspace
    isupper items join keys ljust lower lstrip partition pop remove replace reverse rfind rjust rpartition rsplit
    rstrip setdefault split splitlines startswith strip update upper values zfill bit_length""".split())

BARRED_NODES = (ast.Global, ast.AsyncFunctionDef, ast.AsyncFor, ast.AsyncWith, ast.Await, ast.Import, ast.Div)


def names_bound(tree):
    """All names that a file binds: functions, classes, parameters, variables, attributes."""
    found = []
    for node in ast.walk(tree):
        if isinstance(node, (ast.FunctionDef, ast.ClassDef)):
            found.append(node.name)
        elif isinstance(node, ast.arg):
            found.append(node.arg)
        elif isinstance(node, ast.Name) and isinstance(node.ctx, ast.Store):
            found.append(node.id)
        elif isinstance(node, ast.Attribute) and isinstance(node.ctx, ast.Store):
            found.append(node.attr)
        elif isinstance(node, ast.alias):
            found.append(node.asname or node.name)
    return found


def methods_of(tree):
    """The names of all methods of a file's classes, but those with double underscores."""
    return [node.name for told in tree.body if isinstance(told, ast.ClassDef) for node in told.body
            if isinstance(node, ast.FunctionDef) and not node.name.startswith("__")]


def imports_of(tree):
    return [node for node in ast.walk(tree) if isinstance(node, ast.ImportFrom)]


class FormTest(unittest.TestCase):

    def setUp(self):
        self.files = sorted(path for path in PACKAGE.rglob("*") if "__pycache__" not in path.parts)
        self.texts = {path: path.read_text("utf-8") for path in self.files if path.is_file()}
        self.trees = {path: ast.parse(text) for path, text in self.texts.items()}

    def test_the_folder_has_plain_python_files_alone(self):
        self.assertIn(PACKAGE / "__init__.py", self.files)
        for path in self.files:
            self.assertRegex(path.name, r"\A(__init__|[a-z][a-z0-9_]*)\.py\Z")
            self.assertFalse(path.name.startswith("test"), path)

    def test_sizes_and_signs(self):
        for path, text in self.texts.items():
            self.assertRegex(text, r"\A[ -~\n]*\Z", path)
            lines = text.split("\n")
            self.assertLessEqual(len(lines), 400, path)
            self.assertLessEqual(max(map(len, lines)), 120, path)
            for node in ast.walk(self.trees[path]):
                if isinstance(node, ast.FunctionDef):
                    self.assertLessEqual(node.end_lineno - node.lineno + 1, 40, (path, node.name))

    def test_barred_words(self):
        for path, text in self.texts.items():
            self.assertEqual(set(re.findall(r"\w+", text)) & BARRED_WORDS, set(), path)
            for part in BARRED_PARTS:
                self.assertNotIn(part, text, path)

    def test_names(self):
        for path, tree in self.trees.items():
            for name in names_bound(tree):
                self.assertNotIn(name, BARRED_NAMES | BUILTINS, path)
                self.assertTrue(name == "__init__" or not name.startswith("_"), (path, name))

    def test_each_name_read_is_bound_here_or_an_allowed_builtin(self):
        for path, tree in self.trees.items():
            read = {node.id for node in ast.walk(tree) if isinstance(node, ast.Name)}
            self.assertEqual(read - set(names_bound(tree)) - BUILTINS, set(), path)

    def test_statements_and_values(self):
        for path, tree in self.trees.items():
            for node in ast.walk(tree):
                self.assertNotIsInstance(node, BARRED_NODES, path)
                if isinstance(node, ast.Constant):
                    self.assertNotIsInstance(node.value, (float, complex), path)
                    self.assertNotIn("%", str(node.value), path)
                if isinstance(node, ast.Compare) and isinstance(node.ops[0], (ast.Is, ast.IsNot)):
                    self.assertIsInstance(node.comparators[0], ast.Constant, path)

    def test_the_module_level_has_definitions_alone(self):
        for path, tree in self.trees.items():
            for node in tree.body:
                docstring = isinstance(node, ast.Expr) and isinstance(node.value, ast.Constant)
                allowed = (ast.ImportFrom, ast.FunctionDef, ast.ClassDef, ast.Assign)
                self.assertTrue(docstring or isinstance(node, allowed), (path, node.lineno))
            names = [name for node in tree.body for name in names_bound(ast.Module([node], []))
                     if isinstance(node, (ast.ImportFrom, ast.Assign))]
            names += [node.name for node in tree.body if isinstance(node, (ast.FunctionDef, ast.ClassDef))]
            self.assertEqual(len(names), len(set(names)), path)

    def test_local_names_are_no_names_of_imports_or_classes(self):
        for path, tree in self.trees.items():
            barred = {alias.name for node in imports_of(tree) for alias in node.names}
            barred |= {node.name for node in tree.body if isinstance(node, ast.ClassDef)}
            for node in ast.walk(tree):
                if isinstance(node, ast.FunctionDef):
                    self.assertEqual(set(names_bound(node)) & barred, set(), (path, node.name))

    def test_methods_of_builtin_values_and_own_ones(self):
        own = {name for tree in self.trees.values() for name in methods_of(tree)}
        self.assertEqual(own & (METHODS | BARRED_NAMES), set())
        for path, tree in self.trees.items():
            for node in ast.walk(tree):
                if isinstance(node, ast.Call) and isinstance(node.func, ast.Attribute):
                    self.assertIn(node.func.attr, METHODS | own, (path, node.lineno))
                    self.assertEqual(node.keywords, [], (path, node.lineno))

    def test_attributes_are_no_methods_and_are_assigned(self):
        nodes = [node for tree in self.trees.values() for node in ast.walk(tree)]
        methods = METHODS | {name for tree in self.trees.values() for name in methods_of(tree)}
        assigned = {node.attr for node in nodes
                    if isinstance(node, ast.Attribute) and isinstance(node.ctx, ast.Store)}
        self.assertEqual(assigned & methods, set())
        called = [node.func for node in nodes if isinstance(node, ast.Call)]
        for node in nodes:
            if isinstance(node, ast.Attribute) and node not in called:
                self.assertIn(node.attr, assigned, node.lineno)

    def test_values_of_the_module_level_are_read_alone(self):
        for path, tree in self.trees.items():
            values = {node.targets[0].id for node in tree.body if isinstance(node, ast.Assign)}
            for node in ast.walk(tree):
                if isinstance(node, ast.FunctionDef):
                    self.assertEqual(set(names_bound(node)) & values, set(), (path, node.name))
                if isinstance(node, ast.Subscript) and isinstance(node.ctx, (ast.Store, ast.Del)):
                    self.assertNotIn(getattr(node.value, "id", None), values, (path, node.lineno))
                if isinstance(node, ast.Attribute):
                    self.assertNotIn(getattr(node.value, "id", None), values, (path, node.lineno))

    def test_imports_name_the_file_that_defines_the_name(self):
        for path, tree in self.trees.items():
            for node in imports_of(tree):
                self.assertEqual(node.level, 0, path)
                self.assertIn(node, tree.body, path)
                package, module = node.module.split(".")
                self.assertEqual(package, "twosetsums", path)
                source = self.trees[PACKAGE / f"{module}.py"]
                imported = {alias.name for told in imports_of(source) for alias in told.names}
                for alias in node.names:
                    self.assertIn(alias.name, set(names_bound(source)) - imported, path)

    def test_no_two_files_import_from_each_other(self):
        below = {path.stem: {node.module.split(".")[1] for node in imports_of(tree)}
                 for path, tree in self.trees.items()}
        while below:
            free = [name for name in below if not below[name] & set(below)]
            self.assertTrue(free, below)
            for name in free:
                del below[name]
