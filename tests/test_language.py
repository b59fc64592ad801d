"""The files of the package keep to those rules of the language document that a program can see easily."""

import ast
import builtins
import functools
import pathlib
import re
import unittest

PACKAGE = pathlib.Path(__file__).resolve().parent.parent / "findforests"
ALLOWED_BUILTINS = set(
    "len range enumerate zip min max sum abs sorted reversed int str bool bytes list tuple dict set frozenset "
    "isinstance ord repr any all divmod iter next Exception ValueError TypeError KeyError IndexError LookupError "
    "ZeroDivisionError ArithmeticError OverflowError RuntimeError NotImplementedError AttributeError StopIteration "
    "NotImplemented property staticmethod classmethod super object".split()
)
BARRED_WORDS = (
    "type typing typing_extensions enum Enum IntEnum StrEnum Flag IntFlag Generic Protocol ABC ABCMeta namedtuple "
    "NamedTuple TypedDict TYPE_CHECKING abstractmethod"
).split()
BARRED_PARTS = ["dataclass", "overload", "contextmanager"]
BARRED_NAMES = set(
    "register mro elements open input version_info with_traceback add_note format format_map".split()
)
ALLOWED_METHODS = set(
    "append clear copy count endswith extend find get index insert isalnum isalpha isdigit islower isspace isupper "
    "items join keys ljust lower lstrip partition pop remove replace reverse rfind rjust rpartition rsplit rstrip "
    "setdefault split splitlines startswith strip update upper values zfill bit_length add discard "
    "sort".split()
)
BARRED_NODES = (
    ast.Global, ast.AsyncFunctionDef, ast.AsyncFor, ast.AsyncWith, ast.Await, ast.Import, ast.Div, ast.MatMult,
    ast.TryStar,
)
MODULE_LEVEL = (ast.ImportFrom, ast.FunctionDef, ast.ClassDef, ast.Assign)
ALLOWED_DOUBLE = ["__init__", "__eq__", "__repr__", "__len__"]
# What builtin values have and an own attribute may be called nevertheless.
ALLOWED_ATTRIBUTES = ["count", "index", "title", "find", "get", "join", "lower", "upper", "split", "strip", "copy", "add"]
DOUBLE = re.compile(r"__[a-z]+__")


def files():
    return sorted(PACKAGE.glob("*.py"))


@functools.lru_cache(maxsize=None)
def trees():
    return [(path.name, ast.parse(path.read_text())) for path in files()]


def bound_names(tree):
    """Names that functions bind: parameters, variables and nested functions' names."""
    for node in ast.walk(tree):
        if isinstance(node, ast.arg):
            yield node.arg
        elif isinstance(node, ast.Name) and not isinstance(node.ctx, ast.Load):
            yield node.id
        elif isinstance(node, ast.ExceptHandler) and node.name:
            yield node.name


def all_names(tree):
    """Every name that stands in a file, attributes and definitions included."""
    yield from bound_names(tree)
    for node in ast.walk(tree):
        if isinstance(node, (ast.FunctionDef, ast.ClassDef)):
            yield node.name
        elif isinstance(node, ast.Attribute):
            yield node.attr
        elif isinstance(node, ast.Name):
            yield node.id


def defined_names(tree):
    """What a file itself defines at module level."""
    for node in tree.body:
        if isinstance(node, (ast.FunctionDef, ast.ClassDef)):
            yield node.name
        elif isinstance(node, ast.Assign):
            yield from (target.id for target in node.targets)


def imported_names(tree):
    """The names that the imports of a file bind."""
    imports = [node for node in tree.body if isinstance(node, ast.ImportFrom)]
    return [alias.asname or alias.name for node in imports for alias in node.names]


def imported_modules(tree):
    return {node.module for node in tree.body if isinstance(node, ast.ImportFrom)}


def methods():
    """The methods of all classes of the package."""
    classes = [node for name, tree in trees() for node in tree.body if isinstance(node, ast.ClassDef)]
    return [row for node in classes for row in node.body if isinstance(row, ast.FunctionDef)]


@functools.lru_cache(maxsize=None)
def own_methods():
    """The names of the methods of all classes of the package."""
    return {row.name for row in methods()}


def own_attributes():
    """The names of the attributes that are assigned anywhere in the package."""
    nodes = [node for name, tree in trees() for node in ast.walk(tree)]
    return {node.attr for node in nodes if isinstance(node, ast.Attribute) and isinstance(node.ctx, ast.Store)}


def is_view(value):
    """Whether an expression is something that may only be iterated on the spot."""
    if not isinstance(value, ast.Call):
        return False
    if isinstance(value.func, ast.Attribute):
        return value.func.attr in ["items", "keys", "values"]
    return isinstance(value.func, ast.Name) and value.func.id in ["zip", "enumerate", "reversed", "range"]


class TextTest(unittest.TestCase):
    def test_folder_contains_only_plain_files(self):
        for path in PACKAGE.iterdir():
            # Python writes this folder when tests run; it is never committed.
            if path.name != "__pycache__":
                self.assertRegex(path.name, r"^(__init__|__main__|[a-z][a-z0-9_]*)\.py$")
        self.assertTrue((PACKAGE / "__init__.py").is_file())

    def test_characters_and_sizes(self):
        for path in files():
            text = path.read_bytes().decode("utf-8")
            self.assertRegex(text, r"^[ -~\n]*\Z", path.name)
            rows = text.split("\n")
            self.assertLessEqual(len(rows), 400, path.name)
            self.assertLessEqual(max(len(row) for row in rows), 120, path.name)

    def test_barred_words(self):
        for path in files():
            text = path.read_text()
            for word in BARRED_WORDS:
                self.assertNotRegex(text, rf"\b{word}\b", path.name)
            for part in BARRED_PARTS:
                self.assertNotIn(part, text, path.name)


class TreeTest(unittest.TestCase):
    def test_module_level(self):
        for name, tree in trees():
            self.assertIsNotNone(ast.get_docstring(tree), name)
            for node in tree.body[1:]:
                self.assertIsInstance(node, MODULE_LEVEL, name)

    def test_imports_name_the_file_that_defines(self):
        defined = {f"findforests.{name[:-3]}": set(defined_names(tree)) for name, tree in trees()}
        for name, tree in trees():
            for node in ast.walk(tree):
                if isinstance(node, ast.ImportFrom):
                    self.assertEqual(node.level, 0, name)
                    self.assertIn(node, tree.body, name)
                    for alias in node.names:
                        self.assertIn(alias.name, defined[node.module], name)

    def test_functions_are_short(self):
        for name, tree in trees():
            for node in ast.walk(tree):
                if isinstance(node, ast.FunctionDef):
                    self.assertLessEqual(node.end_lineno - node.lineno + 1, 40, (name, node.name))

    def test_barred_nodes_and_values(self):
        for name, tree in trees():
            for node in ast.walk(tree):
                self.assertNotIsInstance(node, BARRED_NODES, name)
                if isinstance(node, ast.Constant):
                    self.assertNotIsInstance(node.value, (float, complex), name)
                    self.assertFalse(isinstance(node.value, str) and "%" in node.value, name)

    def test_is_only_beside_constants(self):
        for name, tree in trees():
            for node in ast.walk(tree):
                if isinstance(node, ast.Compare):
                    for sign, right in zip(node.ops, node.comparators):
                        if isinstance(sign, (ast.Is, ast.IsNot)):
                            self.assertIsInstance(right, ast.Constant, name)

    def test_powers_have_small_literal_exponents(self):
        for name, tree in trees():
            for node in ast.walk(tree):
                if isinstance(node, ast.BinOp) and isinstance(node.op, ast.Pow):
                    self.assertIsInstance(node.right, ast.Constant, name)
                    self.assertIn(node.right.value, range(65), name)

    def test_methods_of_builtin_values(self):
        for name, tree in trees():
            for node in ast.walk(tree):
                if isinstance(node, ast.Call) and isinstance(node.func, ast.Attribute):
                    self.assertIn(node.func.attr, ALLOWED_METHODS | own_methods(), name)

    def test_no_generator_expressions(self):
        # They are barred from most places as soon as a class has its own equality, so lists stand there at once.
        for name, tree in trees():
            for node in ast.walk(tree):
                self.assertNotIsInstance(node, ast.GeneratorExp, name)

    def test_views_are_iterated_at_once(self):
        for name, tree in trees():
            for node in ast.walk(tree):
                if isinstance(node, (ast.Assign, ast.Return)):
                    self.assertFalse(is_view(node.value), (name, node.lineno))

    def test_names_are_bound_once_at_module_level(self):
        for name, tree in trees():
            words = [*imported_names(tree), *defined_names(tree)]
            self.assertEqual(len(words), len(set(words)), name)

    def test_variables_do_not_hide_imports_and_classes(self):
        for name, tree in trees():
            outer = {*imported_names(tree), *(node.name for node in tree.body if isinstance(node, ast.ClassDef))}
            self.assertFalse(outer & set(bound_names(tree)), name)

    def test_no_circle_of_imports(self):
        needs = {f"findforests.{name[:-3]}": imported_modules(tree) for name, tree in trees()}
        while needs:
            free = [module for module in needs if not needs[module] & set(needs)]
            self.assertTrue(free, sorted(needs))
            needs = {module: needs[module] for module in needs if module not in free}

    def test_names(self):
        for name, tree in trees():
            for word in all_names(tree):
                self.assertTrue(DOUBLE.fullmatch(word) or not word.startswith("_"), (name, word))
                self.assertNotIn(word, BARRED_NAMES, name)

    def test_builtins(self):
        for name, tree in trees():
            for word in bound_names(tree):
                self.assertFalse(hasattr(builtins, word), (name, word))
            for node in ast.walk(tree):
                if isinstance(node, ast.Name) and hasattr(builtins, node.id):
                    self.assertIn(node.id, ALLOWED_BUILTINS, name)


class ClassTest(unittest.TestCase):
    def test_double_underscore_methods(self):
        for row in methods():
            self.assertTrue(row.name in ALLOWED_DOUBLE or not row.name.startswith("_"), row.name)

    def test_questions_about_objects_assign_nothing(self):
        for row in methods():
            if row.name in ["__eq__", "__repr__", "__len__"]:
                self.assertIsInstance(row.body[-1], ast.Return, row.name)
                for node in ast.walk(row):
                    self.assertNotIsInstance(node, (ast.Assign, ast.AugAssign, ast.Delete), row.name)

    def test_lengths_and_texts_of_objects(self):
        for row in methods():
            returned = [node.value for node in ast.walk(row) if isinstance(node, ast.Return)]
            if row.name == "__len__":
                self.assertEqual([value.func.id for value in returned], ["len"])
            if row.name == "__repr__":
                self.assertEqual([value.__class__ for value in returned], [ast.JoinedStr])

    def test_no_name_is_a_method_and_an_attribute(self):
        self.assertEqual(own_methods() & own_attributes(), set())

    def test_attributes_that_are_read_are_assigned(self):
        known = ALLOWED_METHODS | own_methods() | own_attributes()
        for name, tree in trees():
            for node in ast.walk(tree):
                if isinstance(node, ast.Attribute):
                    self.assertIn(node.attr, known, name)

    def test_attributes_of_builtin_values_are_left_alone(self):
        for kind in [str, int, list, dict, set, bytes, tuple]:
            self.assertEqual(own_attributes() & set(dir(kind)) - set(ALLOWED_ATTRIBUTES), set())
            self.assertEqual((own_methods() - set(ALLOWED_DOUBLE)) & set(dir(kind)) - ALLOWED_METHODS, set())


if __name__ == "__main__":
    unittest.main()
