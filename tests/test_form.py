"""The form of the package's files, as far as a short test can see it."""

import ast
import builtins
import unittest
from pathlib import Path

FOLDER = Path(__file__).resolve().parent.parent / "ateverymoment"
LIBRARY = {"heapq", "math", "itertools", "collections", "__future__"}
BUILTINS = {name for name in vars(builtins) if not name.startswith("_")}
FUNCTIONS = (ast.FunctionDef, ast.AsyncFunctionDef)
BARRED = {"register", "mro", "elements", "open", "input", "law", "version_info", "with_traceback", "add_note"}


def files():
    return sorted(FOLDER.glob("*.py"))


def bound_names(tree):
    for node in ast.walk(tree):
        if isinstance(node, FUNCTIONS + (ast.ClassDef,)):
            yield node.name
        elif isinstance(node, ast.Name) and isinstance(node.ctx, ast.Store):
            yield node.id
        elif isinstance(node, ast.arg):
            yield node.arg


class Form(unittest.TestCase):
    def test_the_folder_holds_python_files_only(self):
        found = [path.name for path in FOLDER.iterdir() if path.name != "__pycache__"]
        self.assertTrue(found)
        self.assertEqual([name for name in found if not name.endswith(".py")], [])

    def test_sizes_and_characters(self):
        for path in files():
            text = path.read_bytes().decode("ascii")
            lines = text.splitlines()
            self.assertLessEqual(len(lines), 399, path.name)
            self.assertLessEqual(max(map(len, lines)), 120, path.name)
            self.assertTrue(all(" " <= sign <= "~" or sign == "\n" for sign in text), path.name)
            for node in ast.walk(ast.parse(text)):
                if isinstance(node, FUNCTIONS):
                    self.assertLessEqual(node.end_lineno - node.lineno + 1, 40, (path.name, node.name))

    def test_imports_come_from_the_package(self):
        for path in files():
            tree = ast.parse(path.read_text())
            for node in ast.walk(tree):
                self.assertNotIsInstance(node, ast.Import, path.name)
                if isinstance(node, ast.ImportFrom):
                    self.assertTrue(node.module.split(".")[0] in LIBRARY | {"ateverymoment"}, path.name)
                    self.assertEqual((node.level, node in tree.body), (0, True), path.name)

    def test_no_name_of_a_builtin_is_given_another_meaning(self):
        for path in files():
            for name in bound_names(ast.parse(path.read_text())):
                self.assertNotIn(name, BUILTINS, path.name)

    def test_barred_names(self):
        for path in files():
            tree = ast.parse(path.read_text())
            attributes = {node.attr for node in ast.walk(tree) if isinstance(node, ast.Attribute)}
            self.assertEqual((set(bound_names(tree)) | attributes) & BARRED, set(), path.name)

    def test_no_two_files_import_from_each_other(self):
        needed = {path.stem: set() for path in files()}
        for path in files():
            for node in ast.parse(path.read_text()).body:
                if isinstance(node, ast.ImportFrom) and node.module.startswith("ateverymoment."):
                    needed[path.stem].add(node.module.partition(".")[2])
        while needed:
            free = [name for name in needed if not needed[name] & set(needed)]
            self.assertTrue(free, needed)
            for name in free:
                del needed[name]

    def test_no_percent_sign_stands_in_a_string(self):
        for path in files():
            for node in ast.walk(ast.parse(path.read_text())):
                if isinstance(node, ast.Constant) and isinstance(node.value, str):
                    self.assertNotIn("%", node.value, path.name)
