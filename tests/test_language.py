"""The rules of the language that can be seen at a glance: files, imports, sizes, signs and names."""

import ast
import builtins
import re
import unittest
from pathlib import Path

PACKAGE = Path(__file__).resolve().parent.parent / "fardesk"
BARRED = ("register", "mro", "elements", "open", "input", "law", "version_info", "with_traceback", "add_note")
PARTS_OF_WORDS = ("dataclass", "overload", "contextmanager", "_wall")
WORDS = ("typing", "enum", "Enum", "Flag", "Generic", "Protocol", "namedtuple", "NamedTuple")
CALLED_BUILTINS = (
    "len", "range", "enumerate", "zip", "min", "max", "sum", "abs", "sorted", "reversed", "int", "str", "bool", "list",
    "tuple", "dict", "set", "isinstance", "ord", "repr", "any", "all", "divmod",
)
CALLED_METHODS = (
    "append", "clear", "copy", "count", "endswith", "extend", "find", "get", "index", "insert", "items", "join", "keys",
    "pop", "remove", "replace", "reverse", "setdefault", "split", "startswith", "strip", "update", "values",
)
STATEMENTS = (ast.Global, ast.AsyncFunctionDef, ast.Import, ast.Await)


def files():
    return sorted(path for path in PACKAGE.rglob("*") if "__pycache__" not in path.parts)


def trees():
    return [(path, ast.parse(path.read_text())) for path in files()]


def bound_names(tree):
    for node in ast.walk(tree):
        if isinstance(node, ast.FunctionDef | ast.ClassDef):
            yield node.name
        elif isinstance(node, ast.arg):
            yield node.arg
        elif isinstance(node, ast.Name) and isinstance(node.ctx, ast.Store):
            yield node.id


class TestLanguage(unittest.TestCase):
    def test_the_folder_contains_only_plain_python_files(self):
        self.assertTrue(files())
        for path in files():
            self.assertTrue(path.is_file(), path)
            self.assertEqual(path.suffix, ".py")
            self.assertTrue(path.stem.isidentifier() and path.stem == path.stem.lower(), path)

    def test_lines_and_signs(self):
        for path in files():
            text = path.read_text(encoding="utf-8")
            self.assertLessEqual(len(text.splitlines()), 399, path)
            for line in text.split("\n"):
                self.assertLessEqual(len(line), 120, (path, line))
                self.assertTrue(all(" " <= sign <= "~" for sign in line), (path, line))
            for part in PARTS_OF_WORDS:
                self.assertNotIn(part, text, path)
            for word in WORDS:
                self.assertNotIn(word, re.findall(r"\w+", text), path)

    def test_functions_are_short(self):
        for path, tree in trees():
            for node in ast.walk(tree):
                if isinstance(node, ast.FunctionDef):
                    self.assertLessEqual(node.end_lineno - node.lineno + 1, 40, (path, node.name))

    def test_imports_name_modules_of_the_package(self):
        for path, tree in trees():
            for node in ast.walk(tree):
                self.assertNotIsInstance(node, STATEMENTS, path)
                if isinstance(node, ast.ImportFrom):
                    self.assertEqual(node.level, 0, path)
                    self.assertEqual(node.module.split(".")[0], "fardesk", path)
                    self.assertIn(node, tree.body, path)

    def test_imported_names_are_defined_in_the_named_file(self):
        defined = {}
        for path, tree in trees():
            names = [node.name for node in tree.body if isinstance(node, ast.FunctionDef | ast.ClassDef)]
            for node in tree.body:
                if isinstance(node, ast.Assign):
                    names += [target.id for target in node.targets]
            self.assertEqual(len(names), len(set(names)), path)
            defined["fardesk." + path.stem] = names
        for path, tree in trees():
            for node in tree.body:
                if isinstance(node, ast.ImportFrom):
                    for alias in node.names:
                        self.assertIn(alias.name, defined[node.module], path)

    def test_no_two_files_import_from_each_other(self):
        imports = {}
        for path, tree in trees():
            imports["fardesk." + path.stem] = [node.module for node in tree.body if isinstance(node, ast.ImportFrom)]
        # Files that import only from files that are done are done, too; a circle never is.
        done = []
        while len(done) < len(imports):
            ready = [name for name in imports if name not in done and all(of in done for of in imports[name])]
            self.assertTrue(ready, sorted(name for name in imports if name not in done))
            done.extend(ready)

    def test_modules_contain_only_what_they_may(self):
        for path, tree in trees():
            self.assertIsNotNone(ast.get_docstring(tree), path)
            for node in tree.body[1:]:
                self.assertIsInstance(node, ast.ImportFrom | ast.FunctionDef | ast.ClassDef | ast.Assign, path)
            for node in ast.walk(tree):
                if isinstance(node, ast.FunctionDef | ast.ClassDef):
                    self.assertEqual(node.decorator_list, [], path)
                    self.assertTrue(ast.get_docstring(node) or node.name == "__init__", (path, node.name))

    def test_calls_of_builtins_and_of_their_methods(self):
        own = {node.name for _, tree in trees() for node in ast.walk(tree) if isinstance(node, ast.FunctionDef)}
        for path, tree in trees():
            for node in ast.walk(tree):
                if isinstance(node, ast.Call) and isinstance(node.func, ast.Attribute):
                    self.assertIn(node.func.attr, own.union(CALLED_METHODS), (path, node.lineno))
                elif isinstance(node, ast.Call) and hasattr(builtins, node.func.id):
                    self.assertIn(node.func.id, CALLED_BUILTINS, (path, node.lineno))

    def test_no_name_is_a_method_and_an_attribute_of_a_class(self):
        for path, tree in trees():
            for made in tree.body:
                if isinstance(made, ast.ClassDef):
                    methods = {node.name for node in made.body if isinstance(node, ast.FunctionDef)}
                    attributes = {node.attr for node in ast.walk(made)
                                  if isinstance(node, ast.Attribute) and isinstance(node.ctx, ast.Store)}
                    self.assertEqual(methods & attributes, set(), (path, made.name))

    def test_names(self):
        for path, tree in trees():
            imported = [alias.name for node in tree.body if isinstance(node, ast.ImportFrom) for alias in node.names]
            for name in bound_names(tree):
                self.assertNotIn(name, imported, path)
                self.assertNotIn(name, BARRED, path)
                self.assertNotIn(name, [word for word in dir(builtins) if word[0] != "_"], path)

    def test_strings_have_no_percent_sign(self):
        for path, tree in trees():
            for node in ast.walk(tree):
                if isinstance(node, ast.Constant) and isinstance(node.value, str):
                    self.assertNotIn("%", node.value, path)
