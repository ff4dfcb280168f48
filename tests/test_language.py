"""The package's files keep to the part of the language that a program can look for."""

import ast
import pathlib
import re
import unittest

PACKAGE = pathlib.Path(__file__).resolve().parent.parent / "ruletales"
FILES = sorted(path for path in PACKAGE.rglob("*") if path.is_file() and path.suffix != ".pyc")

NODES = {
    "Module", "ImportFrom", "alias", "FunctionDef", "ClassDef", "arguments", "arg", "Assign", "If", "While", "For",
    "Return", "Break", "Continue", "Pass", "Raise", "Try", "ExceptHandler", "Expr", "Constant", "List", "Tuple", "Dict",
    "BinOp", "UnaryOp", "BoolOp", "Compare", "IfExp", "Call", "Attribute", "Subscript", "Slice", "ListComp",
    "comprehension", "Name", "Load", "Store", "Add", "Sub", "Mult", "FloorDiv", "Mod", "USub", "Not", "And", "Or", "Eq",
    "NotEq", "Lt", "LtE", "Gt", "GtE", "In", "NotIn",
}
OWN_NAMES = {
    "len", "range", "enumerate", "zip", "min", "max", "sum", "abs", "sorted", "reversed", "int", "str", "bool", "list",
    "tuple", "dict", "set", "isinstance", "ord", "repr", "any", "all", "divmod", "ValueError", "KeyError",
}
METHODS = {"append", "extend", "join", "pop", "get"}
BARRED_WORDS = {
    "type", "typing", "typing_extensions", "enum", "Enum", "IntEnum", "StrEnum", "Flag", "IntFlag", "Generic", "Protocol",
    "ABC", "ABCMeta", "namedtuple", "NamedTuple", "TypedDict", "TYPE_CHECKING", "abstractmethod",
}
BARRED_NAMES = set(dir(__builtins__) if not isinstance(__builtins__, dict) else __builtins__) | {
    "register", "mro", "elements", "version_info", "attrgetter", "builtins", "gc", "importlib", "methodcaller", "os", "sys",
}
VALUES_OF_PYTHON = {name for kind in (str, int, list, dict, set, tuple, bytes) for name in dir(kind)}


def trees():
    return [(path, ast.parse(path.read_text())) for path in FILES]


def bound_at_top(tree):
    names = []
    for node in tree.body:
        if isinstance(node, (ast.FunctionDef, ast.ClassDef)):
            names.append(node.name)
        elif isinstance(node, ast.ImportFrom):
            names.extend(alias.name for alias in node.names)
        elif isinstance(node, ast.Assign):
            names.append(node.targets[0].id)
    return names


def stored_names(tree):
    names = [node.id for node in ast.walk(tree) if isinstance(node, ast.Name) and isinstance(node.ctx, ast.Store)]
    return names + [node.arg for node in ast.walk(tree) if isinstance(node, ast.arg)]


class LanguageTest(unittest.TestCase):
    def test_files(self):
        for path in FILES:
            self.assertRegex(path.name, r"\A([a-z][a-z0-9_]*|__init__)\.py\Z")
        self.assertIn(PACKAGE / "__init__.py", FILES)
        self.assertIn(PACKAGE / "tale.py", FILES)

    def test_sizes_and_signs(self):
        for path in FILES:
            rows = path.read_text().split("\n")
            self.assertLessEqual(len(rows), 400, path)
            for row in rows:
                self.assertLessEqual(len(row), 120, (path, row))
                self.assertTrue(all(" " <= sign <= "~" for sign in row), (path, row))

    def test_barred_words(self):
        for path in FILES:
            words = set(re.findall(r"\w+", path.read_text()))
            self.assertEqual(words & BARRED_WORDS, set(), path)
            for part in ("dataclass", "overload", "contextmanager"):
                self.assertNotIn(part, path.read_text())

    def test_forms(self):
        for path, tree in trees():
            for node in ast.walk(tree):
                self.assertIn(node.__class__.__name__, NODES, (path, getattr(node, "lineno", 0)))
                if isinstance(node, ast.FunctionDef):
                    self.assertLessEqual(node.end_lineno - node.lineno + 1, 40, (path, node.name))
                if isinstance(node, ast.Assign):
                    self.assertEqual(len(node.targets), 1, (path, node.lineno))
                if isinstance(node, (ast.For, ast.While)):
                    self.assertEqual(node.orelse, [], (path, node.lineno))

    def test_imports_are_the_packages_own(self):
        for path, tree in trees():
            for node in ast.walk(tree):
                if isinstance(node, ast.ImportFrom):
                    self.assertEqual((node.level, node.module.split(".")[0]), (0, "ruletales"), path)

    def test_names(self):
        for path, tree in trees():
            tops = bound_at_top(tree)
            self.assertEqual(len(tops), len(set(tops)), path)
            for name in stored_names(tree) + tops:
                self.assertNotIn(name, BARRED_NAMES, path)
                self.assertFalse(name.startswith("_"), (path, name))
            known = set(tops) | set(stored_names(tree)) | OWN_NAMES
            for node in ast.walk(tree):
                if isinstance(node, ast.Name):
                    self.assertIn(node.id, known, (path, node.lineno))

    def test_no_local_hides_a_class_or_an_import(self):
        for path, tree in trees():
            kept = [node for node in tree.body if isinstance(node, (ast.ImportFrom, ast.ClassDef))]
            hidden = set(bound_at_top(ast.Module(kept, [])))
            self.assertEqual(hidden & set(stored_names(tree)), set(), path)

    def test_methods_and_values(self):
        own_methods, own_values, called = set(), set(), set()
        for path, tree in trees():
            for node in ast.walk(tree):
                if isinstance(node, ast.ClassDef):
                    own_methods |= {part.name for part in node.body if isinstance(part, ast.FunctionDef)}
                if isinstance(node, ast.Attribute) and isinstance(node.ctx, ast.Store):
                    own_values.add(node.attr)
                if isinstance(node, ast.Call) and isinstance(node.func, ast.Attribute):
                    called.add(node.func.attr)
        self.assertEqual(own_methods & own_values, set())
        self.assertEqual((own_methods - {"__init__"} | own_values) & VALUES_OF_PYTHON, set())
        self.assertEqual(called - own_methods - METHODS, set())


if __name__ == "__main__":
    unittest.main()
