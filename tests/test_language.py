"""The rules of ../shared/LANGUAGE.md that can be seen row by row."""

import ast
import builtins
import re
import unittest
from pathlib import Path

PACKAGE = Path(__file__).resolve().parent.parent / "laidover"
FILES = sorted(PACKAGE.glob("*.py"))

BUILTINS = set(
    "len range enumerate zip min max sum abs sorted reversed int str bool bytes list tuple dict set frozenset"
    " isinstance ord repr any all divmod Exception ValueError TypeError KeyError IndexError LookupError"
    " ZeroDivisionError ArithmeticError OverflowError RuntimeError NotImplementedError AttributeError"
    " StopIteration NotImplemented".split()
)

METHODS = set(
    "append clear copy count endswith extend find get index insert isalnum isalpha isdigit islower isspace isupper"
    " items join keys ljust lower lstrip partition pop remove replace reverse rfind rjust rpartition rsplit rstrip"
    " setdefault split splitlines startswith strip update upper values zfill bit_length".split()
)

BARRED_WORDS = (
    r"\b(type|typing|typing_extensions|enum|Enum|IntEnum|StrEnum|Flag|IntFlag|Generic|Protocol|ABC|ABCMeta"
    r"|namedtuple|NamedTuple|TypedDict|TYPE_CHECKING|abstractmethod)\b|dataclass|overload|contextmanager"
)

BARRED_NODES = (
    ast.Div, ast.MatMult, ast.Global, ast.AsyncFunctionDef, ast.AsyncFor,
    ast.AsyncWith, ast.Await, ast.Import,
)


def bound_names(tree):
    """Every name that a file gives to something of its own, but for imports."""
    for node in ast.walk(tree):
        if isinstance(node, (ast.FunctionDef, ast.ClassDef)):
            yield node.name
        elif isinstance(node, ast.arg):
            yield node.arg
        elif isinstance(node, ast.Name) and not isinstance(node.ctx, ast.Load):
            yield node.id


def local_names(tree):
    """Every parameter and local variable of a file."""
    for function in ast.walk(tree):
        if isinstance(function, ast.FunctionDef):
            yield from (name for statement in function.body for name in bound_names(statement))
            yield from bound_names(function.args)


def imports(tree):
    return [node for node in ast.walk(tree) if isinstance(node, ast.ImportFrom)]


def imported_names(tree):
    return {alias.asname or alias.name for node in imports(tree) for alias in node.names}


def top_names(tree):
    """The names that a file itself defines at module level."""
    for row in tree.body:
        if isinstance(row, (ast.FunctionDef, ast.ClassDef)):
            yield row.name
        elif isinstance(row, ast.Assign):
            yield from (node.id for node in row.targets)


TEXTS = {path.stem: path.read_text(encoding="utf-8") for path in FILES}
TREES = {stem: ast.parse(text) for stem, text in TEXTS.items()}
NODES = [(stem, node) for stem, tree in TREES.items() for node in ast.walk(tree)]

OWN_METHODS = {
    row.name for stem, node in NODES if isinstance(node, ast.ClassDef)
    for row in node.body if isinstance(row, ast.FunctionDef)
}
OWN_ATTRIBUTES = {
    node.attr for stem, node in NODES if isinstance(node, ast.Attribute) and isinstance(node.ctx, ast.Store)
}


class TestLanguage(unittest.TestCase):
    def test_the_folder_has_python_files_alone(self):
        others = [p.name for p in PACKAGE.iterdir() if p not in FILES and p.name != "__pycache__"]
        self.assertEqual(others, [])
        self.assertIn("__init__", TREES)
        for stem in TREES:
            self.assertRegex(stem, r"^(__init__|[a-z][a-z0-9_]*)$")

    def test_characters_and_words(self):
        for stem, text in TEXTS.items():
            self.assertIsNone(re.search(r"[^ -~\n]", text), stem)
            self.assertIsNone(re.search(BARRED_WORDS, text), stem)

    def test_sizes(self):
        for stem, text in TEXTS.items():
            rows = text.splitlines()
            self.assertLessEqual(len(rows), 400, stem)
            self.assertLessEqual(max(len(row) for row in rows), 120, stem)
        for stem, node in NODES:
            if isinstance(node, ast.FunctionDef):
                self.assertLessEqual(node.end_lineno - node.lineno + 1, 40, (stem, node.name))

    def test_module_level(self):
        allowed = (ast.ImportFrom, ast.FunctionDef, ast.ClassDef, ast.Assign)
        for stem, tree in TREES.items():
            self.assertIsNotNone(ast.get_docstring(tree), stem)
            for row in tree.body[1:]:
                self.assertIsInstance(row, allowed, (stem, row.lineno))
                if isinstance(row, ast.Assign):
                    calls = [node for node in ast.walk(row) if isinstance(node, (ast.Call, ast.ListComp))]
                    self.assertEqual(calls, [], (stem, row.lineno))

    def test_names_are_bound_once_at_module_level(self):
        for stem, tree in TREES.items():
            names = [*top_names(tree), *imported_names(tree)]
            self.assertEqual(sorted(names), sorted(set(names)), stem)

    def test_imports_name_the_file_that_defines(self):
        for stem, node in NODES:
            if isinstance(node, ast.ImportFrom):
                self.assertEqual(node.level, 0, (stem, node.lineno))
                package, _, source = node.module.partition(".")
                self.assertEqual(package, "laidover", (stem, node.lineno))
                defined = list(top_names(TREES[source]))
                for alias in node.names:
                    self.assertIn(alias.name, defined, (stem, node.lineno))

    def test_imports_do_not_come_round(self):
        above = {stem: {node.module.partition(".")[2] for node in imports(tree)} for stem, tree in TREES.items()}
        while above:
            free = [stem for stem in above if not above[stem] & set(above)]
            self.assertNotEqual(free, [], sorted(above))
            for stem in free:
                del above[stem]

    def test_methods_are_called_where_they_stand(self):
        called = [node.func for stem, node in NODES if isinstance(node, ast.Call)]
        for stem, node in NODES:
            if isinstance(node, ast.Attribute) and node.attr not in OWN_ATTRIBUTES:
                self.assertIn(node.attr, METHODS | OWN_METHODS, (stem, node.lineno))
                self.assertIn(node, called, (stem, node.lineno))

    def test_own_methods_and_attributes(self):
        self.assertEqual(OWN_METHODS & OWN_ATTRIBUTES, set())
        known = {name for kind in (str, int, list, dict, set, bytes, tuple) for name in dir(kind)}
        self.assertEqual(OWN_METHODS & known - METHODS, {"__init__", "__len__"} & OWN_METHODS)
        self.assertEqual(OWN_ATTRIBUTES & known, set())

    def test_attributes_are_assigned_through_self(self):
        for stem, node in NODES:
            if isinstance(node, ast.Attribute) and not isinstance(node.ctx, ast.Load):
                self.assertEqual(getattr(node.value, "id", None), "self", (stem, node.lineno))

    def test_nothing_is_caught(self):
        for stem, node in NODES:
            self.assertNotIsInstance(node, ast.Try, (stem, getattr(node, "lineno", None)))

    def test_errors_are_made_where_they_are_raised(self):
        for stem, node in NODES:
            if isinstance(node, ast.Raise):
                self.assertIsInstance(node.exc, ast.Call, (stem, node.lineno))
                self.assertIn(node.exc.func.id, list(top_names(TREES["errors"])), (stem, node.lineno))

    def test_imports_are_used(self):
        for stem, tree in TREES.items():
            used = {node.id for node in ast.walk(tree) if isinstance(node, ast.Name)}
            self.assertEqual(imported_names(tree) - used, set(), stem)

    def test_names(self):
        for stem, tree in TREES.items():
            for name in bound_names(tree):
                self.assertRegex(name, r"^([A-Za-z]\w*|__[a-z]+__)$", stem)
            for name in local_names(tree):
                self.assertFalse(hasattr(builtins, name), (stem, name))
            self.assertEqual(imported_names(tree) & set(local_names(tree)), set(), stem)

    def test_builtins(self):
        for stem, node in NODES:
            if isinstance(node, ast.Name) and hasattr(builtins, node.id):
                self.assertIn(node.id, BUILTINS, (stem, node.lineno))

    def test_barred_rows(self):
        for stem, node in NODES:
            place = (stem, getattr(node, "lineno", None))
            self.assertNotIsInstance(node, BARRED_NODES, place)
            if isinstance(node, ast.Constant):
                self.assertNotIsInstance(node.value, (float, complex), place)
                self.assertNotIn("%", str(node.value), place)
            if isinstance(node, ast.FunctionDef):
                self.assertEqual(node.args.posonlyargs, [], place)

    def test_is_stands_beside_none_true_and_false_alone(self):
        for stem, node in NODES:
            if isinstance(node, ast.Compare) and isinstance(node.ops[0], (ast.Is, ast.IsNot)):
                beside = getattr(node.comparators[0], "value", "no literal")
                self.assertIn(beside, (None, True, False), (stem, node.lineno))


if __name__ == "__main__":
    unittest.main()
