"""What a small script can see of LANGUAGE.md: sizes, characters, files, imports and names."""

import ast
import builtins
import os
import string
import unittest

ROOT = os.path.dirname(os.path.dirname(os.path.abspath(__file__)))
PACKAGE = os.path.join(ROOT, "fewstamps")
ALLOWED = set(chr(code) for code in range(32, 127)) | {"\n"}
LIBRARY = ("heapq", "math", "itertools", "collections")


def paths():
    return [os.path.join(PACKAGE, name) for name in sorted(os.listdir(PACKAGE)) if name != "__pycache__"]


def text_of(path):
    with open(path, encoding="utf-8", newline="") as file:
        return file.read()


def sources():
    return [(os.path.basename(path), text_of(path)) for path in paths()]


def functions(text):
    return [node for node in ast.walk(ast.parse(text)) if isinstance(node, ast.FunctionDef)]


def faults(name, text):
    """What is wrong with one file by L10, L14 and L27, as far as this script looks."""
    found = []
    lines = text.split("\n")
    if len(text.splitlines()) > 399:
        found.append((name, "too many lines"))
    for number, line in enumerate(lines, 1):
        if len(line) > 120:
            found.append((name, number, "too long"))
        if set(line) - ALLOWED:
            found.append((name, number, "a character"))
    for node in functions(text):
        if node.end_lineno - node.lineno + 1 > 40:
            found.append((name, node.lineno, "too long a function"))
    for node in ast.walk(ast.parse(text)):
        if isinstance(node, ast.Constant) and isinstance(node.value, str) and "%" in node.value:
            found.append((name, node.lineno, "a percent sign"))
    return found


def bound_names(text):
    """The names that the file gives to functions, classes, parameters and variables."""
    found = set()
    for node in ast.walk(ast.parse(text)):
        if isinstance(node, (ast.FunctionDef, ast.ClassDef)):
            found.add(node.name)
        elif isinstance(node, ast.arg):
            found.add(node.arg)
        elif isinstance(node, ast.Name) and not isinstance(node.ctx, ast.Load):
            found.add(node.id)
    return found


def top_names(text):
    """The names that the file itself defines at module level."""
    found = set()
    for node in ast.parse(text).body:
        if isinstance(node, (ast.FunctionDef, ast.ClassDef)):
            found.add(node.name)
        elif isinstance(node, ast.Assign):
            found.update(target.id for target in node.targets)
    return found


def imports(text):
    return [node for node in ast.walk(ast.parse(text)) if isinstance(node, (ast.Import, ast.ImportFrom))]


class Rules(unittest.TestCase):
    def test_sizes_and_characters(self):
        for name, text in sources():
            self.assertEqual(faults(name, text), [])

    def test_the_script_sees_faults(self):
        long = "def f():\n" + "    pass\n" * 40
        self.assertEqual(len(faults("x", long)), 1)
        self.assertEqual(faults("x", "def f():\n" + "    pass\n" * 39), [])
        self.assertEqual(len(faults("x", "\n" * 400)), 1)
        self.assertEqual(faults("x", "\n" * 399), [])
        self.assertEqual(len(faults("x", "#" * 121)), 1)
        self.assertEqual(faults("x", "#" * 120), [])
        for sign in ("\t", "\r", "\xe9", "\x7f", "\x00"):
            text = "# " + sign
            self.assertTrue(set(text) - ALLOWED)
        self.assertEqual(len(faults("x", "#\t")), 1)
        self.assertEqual(len(faults("x", "x = '%'")), 1)

    def test_files(self):
        files = [os.path.basename(path) for path in paths()]
        self.assertIn("__init__.py", files)
        self.assertLessEqual(len(files), 100)
        barred = set(dir(builtins)) | {"test", "tests", "testing", "site", "conftest", "sitecustomize"}
        for name in files:
            self.assertTrue(name.endswith(".py"), name)
            self.assertLessEqual(set(name[:-3]), set(string.ascii_lowercase + string.digits + "_"), name)
            self.assertNotIn(name[:-3], barred | set(LIBRARY))
            self.assertFalse(name.startswith(("law_", "test_")), name)

    def test_strings_together(self):
        total = 0
        for _, text in sources():
            for node in ast.walk(ast.parse(text)):
                if isinstance(node, ast.Constant) and isinstance(node.value, str):
                    total += len(node.value)
        self.assertLessEqual(total, 2000000)

    def test_no_name_of_a_builtin(self):
        for name, text in sources():
            self.assertEqual(bound_names(text) & set(dir(builtins)), set(), name)

    def test_imports_name_the_file_that_defines(self):
        defined = {"fewstamps." + name[:-3]: top_names(text) for name, text in sources()}
        for name, text in sources():
            for node in imports(text):
                self.assertIsInstance(node, ast.ImportFrom, name)
                self.assertEqual(node.level, 0, name)
                if node.module not in LIBRARY:
                    for alias in node.names:
                        self.assertIn(alias.name, defined[node.module], name)

    def test_no_two_files_import_from_each_other(self):
        needs = {}
        for name, text in sources():
            needs["fewstamps." + name[:-3]] = {node.module for node in imports(text)} - set(LIBRARY)
        done = set()
        while len(done) < len(needs):
            ready = {name for name in needs if name not in done and needs[name] <= done}
            self.assertTrue(ready, "a ring of imports")
            done |= ready

    def test_no_attribute_of_a_module_is_state(self):
        for name, text in sources():
            for node in ast.parse(text).body:
                if isinstance(node, ast.Assign):
                    self.assertIsInstance(node.value, ast.Constant, name)


if __name__ == "__main__":
    unittest.main()
