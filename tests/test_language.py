"""Some of the rules of LANGUAGE.md that a test can see."""

import ast
import builtins
import pathlib
import re
import unittest

PACKAGE = pathlib.Path(__file__).resolve().parent.parent / "heldwrites"
FILES = sorted(PACKAGE.glob("*.py"))
LIBRARY = ("heapq", "math", "itertools", "collections")
ALLOWED_BUILTINS = {
    "abs", "all", "any", "bool", "dict", "divmod", "enumerate", "int", "isinstance", "iter", "len", "list", "map",
    "max", "min", "next", "ord", "property", "range", "repr", "reversed", "set", "sorted", "str", "sum", "super",
    "tuple", "zip",
    "False", "IndexError", "KeyError", "None", "NotImplemented", "True", "TypeError", "ValueError",
}
BARRED_NAMES = {"elements", "input", "law", "mro", "open", "register"}
BARRED_WORDS = re.compile(r"\b(type|typing|enum|Enum|Generic|Protocol|ABC|namedtuple|NamedTuple|_wall|_WallAttr)\b|%")


def trees():
    return [(path.name, ast.parse(path.read_text())) for path in FILES]


def nodes_of(tree, *kinds):
    return [node for node in ast.walk(tree) if isinstance(node, kinds)]


class Language(unittest.TestCase):
    def test_the_folder_holds_python_files_alone(self):
        for path in PACKAGE.rglob("*"):
            if "__pycache__" not in path.parts:
                self.assertEqual(path.suffix, ".py", path)

    def test_sizes_and_characters(self):
        for path in FILES:
            text = path.read_text()
            lines = text.splitlines()
            self.assertLessEqual(len(lines), 399, path)
            for number, line in enumerate(lines, 1):
                self.assertLessEqual(len(line), 120, f"{path}:{number}")
                self.assertRegex(line, r"^[ -~]*$", f"{path}:{number}")
        for name, tree in trees():
            for node in nodes_of(tree, ast.FunctionDef):
                self.assertLessEqual(node.end_lineno - node.lineno + 1, 40, f"{name}: {node.name}")

    def test_imports_name_the_file_that_defines_the_name(self):
        defined = {}
        for name, tree in trees():
            own = {node.name for node in tree.body if isinstance(node, (ast.FunctionDef, ast.ClassDef))}
            own |= {node.targets[0].id for node in tree.body if isinstance(node, ast.Assign)}
            defined["heldwrites." + name[:-3]] = own
        for name, tree in trees():
            self.assertEqual(nodes_of(tree, ast.Import), [], name)
            for node in nodes_of(tree, ast.ImportFrom):
                self.assertEqual((node.level, node in tree.body), (0, True), name)
                if node.module not in LIBRARY:
                    for alias in node.names:
                        self.assertIn(alias.name, defined[node.module], name)
                        self.assertIsNone(alias.asname, name)

    def test_no_name_is_that_of_a_builtin(self):
        for name, tree in trees():
            bound = {node.id for node in nodes_of(tree, ast.Name) if not isinstance(node.ctx, ast.Load)}
            bound |= {node.arg for node in nodes_of(tree, ast.arg)}
            bound |= {node.name for node in nodes_of(tree, ast.FunctionDef, ast.ClassDef)}
            self.assertEqual(bound & set(dir(builtins)), set(), name)

    def test_no_other_builtin_is_read(self):
        for name, tree in trees():
            read = {node.id for node in nodes_of(tree, ast.Name) if isinstance(node.ctx, ast.Load)}
            self.assertEqual(read & set(dir(builtins)) - ALLOWED_BUILTINS, set(), name)

    def test_barred_names_words_and_signs(self):
        for name, tree in trees():
            self.assertEqual(nodes_of(tree, ast.AsyncFunctionDef, ast.Global, ast.Div), [], name)
            words = {node.id for node in nodes_of(tree, ast.Name)}
            words |= {node.attr for node in nodes_of(tree, ast.Attribute)}
            self.assertEqual(words & BARRED_NAMES, set(), name)
            for node in nodes_of(tree, ast.Constant):
                self.assertNotIsInstance(node.value, (float, complex), name)
                if isinstance(node.value, str):
                    self.assertIsNone(BARRED_WORDS.search(node.value), f"{name}: {node.value}")


class BesideAClassThatCompares(unittest.TestCase):
    """What Machine's ==, len, [place] and properties ask of the whole package."""

    def calls_of(self, *names):
        for name, tree in trees():
            for node in nodes_of(tree, ast.Call):
                if isinstance(node.func, ast.Name) and node.func.id in names:
                    yield name, node

    def test_no_generators(self):
        for name, tree in trees():
            self.assertEqual(nodes_of(tree, ast.GeneratorExp, ast.Yield, ast.YieldFrom), [], name)

    def test_what_is_reversed_or_sorted(self):
        for name, node in self.calls_of("reversed"):
            self.assertIsInstance(node.args[0], ast.Call, name)
            self.assertIn(node.args[0].func.id, ("list", "tuple", "sorted", "range"), name)
        for name, node in self.calls_of("sorted", "min", "max"):
            for keyword in node.keywords:
                self.assertNotIsInstance(keyword.value, ast.Lambda, name)
        for name, tree in trees():
            self.assertNotIn("sort", {node.attr for node in nodes_of(tree, ast.Attribute)}, name)

    def test_no_other_class_stores_an_attribute_with_the_name_of_a_property_or_method(self):
        methods, stored = set(), set()
        for _, tree in trees():
            for found in nodes_of(tree, ast.ClassDef):
                methods |= {node.name for node in nodes_of(found, ast.FunctionDef)}
            for node in nodes_of(tree, ast.Attribute):
                if isinstance(node.ctx, ast.Store):
                    stored.add(node.attr)
        self.assertEqual(methods & stored, set())
        self.assertIn("rule", methods)
        self.assertIn("_steps", stored)

    def test_what_has_items_is_not_iterated_over(self):
        for name, tree in trees():
            for found in nodes_of(tree, ast.ClassDef):
                methods = {node.name: node for node in nodes_of(found, ast.FunctionDef)}
                if "__getitem__" in methods:
                    self.assertIsInstance(methods["__iter__"].body[0], ast.Raise, name)
