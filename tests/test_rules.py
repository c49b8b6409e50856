"""What a small script can see of LANGUAGE.md: sizes, characters, files, imports and names."""

import ast
import builtins
import os
import string
import unittest

ROOT = os.path.dirname(os.path.dirname(os.path.abspath(__file__)))
PACKAGE = os.path.join(ROOT, "fewstamps")
ALLOWED = set(chr(code) for code in range(32, 127)) | {"\n"}
LIBRARY = ("heapq", "math", "itertools", "collections")
# L8, without the error classes, and without what no file so far has a use for.
BUILTINS = {
    "len", "range", "enumerate", "zip", "min", "max", "sum", "abs", "sorted", "reversed", "int", "str", "bool",
    "list", "tuple", "dict", "set", "isinstance", "any", "all", "True", "False", "None", "RuntimeError",
    "LookupError", "ValueError",
}
# L25.
METHODS = {
    "append", "clear", "copy", "count", "endswith", "extend", "find", "get", "index", "insert", "isalnum",
    "isalpha", "isdigit", "islower", "isspace", "isupper", "items", "join", "keys", "ljust", "lower", "lstrip",
    "partition", "pop", "remove", "replace", "reverse", "rfind", "rjust", "rpartition", "rsplit", "rstrip",
    "setdefault", "split", "splitlines", "startswith", "strip", "update", "upper", "values", "zfill", "bit_length",
}
# L17.
BARRED = {
    "register", "mro", "elements", "open", "input", "law", "version_info", "attrgetter", "breakpoint", "builtins",
    "compile", "copyright", "credits", "delattr", "dir", "eval", "exec", "exit", "gc", "getattr", "globals",
    "hasattr", "help", "id", "importlib", "license", "locals", "methodcaller", "os", "quit", "setattr", "super",
    "type", "vars", "sys",
}
# What L6 and L7 allow, as far as there is a use for it; no try, no with, no lambda, no generator.
NODES = (
    ast.Module, ast.FunctionDef, ast.ClassDef, ast.ImportFrom, ast.alias, ast.arguments, ast.arg, ast.Expr,
    ast.Assign, ast.AugAssign, ast.Return, ast.If, ast.For, ast.While, ast.Pass, ast.Raise, ast.Break, ast.Continue,
    ast.Name, ast.Load, ast.Store, ast.Constant, ast.Tuple, ast.List, ast.Dict, ast.Call, ast.keyword,
    ast.Attribute, ast.Subscript, ast.Slice, ast.Compare, ast.BoolOp, ast.BinOp, ast.UnaryOp, ast.IfExp,
    ast.ListComp, ast.DictComp, ast.comprehension, ast.And, ast.Or, ast.Not, ast.Add, ast.Sub, ast.Mult,
    ast.FloorDiv, ast.BitAnd, ast.BitOr, ast.RShift, ast.LShift, ast.USub, ast.Eq, ast.NotEq, ast.Lt, ast.LtE,
    ast.Gt, ast.GtE, ast.Is, ast.IsNot, ast.In, ast.NotIn,
)


def paths():
    return [os.path.join(PACKAGE, name) for name in sorted(os.listdir(PACKAGE)) if name != "__pycache__"]


def text_of(path):
    with open(path, encoding="utf-8", newline="") as file:
        return file.read()


def sources():
    return [(os.path.basename(path), text_of(path)) for path in paths()]


def functions(text):
    return [node for node in ast.walk(ast.parse(text)) if isinstance(node, ast.FunctionDef)]


def faults(name, text):
    """What is wrong with one file by L10, L14 and L27, as far as this script looks."""
    found = []
    lines = text.split("\n")
    if len(text.splitlines()) > 399:
        found.append((name, "too many lines"))
    for number, line in enumerate(lines, 1):
        if len(line) > 120:
            found.append((name, number, "too long"))
        if set(line) - ALLOWED:
            found.append((name, number, "a character"))
    for node in functions(text):
        if node.end_lineno - node.lineno + 1 > 40:
            found.append((name, node.lineno, "too long a function"))
    for node in ast.walk(ast.parse(text)):
        if isinstance(node, ast.Constant) and isinstance(node.value, str) and "%" in node.value:
            found.append((name, node.lineno, "a percent sign"))
    return found


def bound_names(text):
    """The names that the file gives to functions, classes, parameters and variables."""
    found = set()
    for node in ast.walk(ast.parse(text)):
        if isinstance(node, (ast.FunctionDef, ast.ClassDef)):
            found.add(node.name)
        elif isinstance(node, ast.arg):
            found.add(node.arg)
        elif isinstance(node, ast.Name) and not isinstance(node.ctx, ast.Load):
            found.add(node.id)
    return found


def top_names(text):
    """The names that the file itself defines at module level."""
    found = set()
    for node in ast.parse(text).body:
        if isinstance(node, (ast.FunctionDef, ast.ClassDef)):
            found.add(node.name)
        elif isinstance(node, ast.Assign):
            found.update(target.id for target in node.targets)
    return found


def imports(text):
    return [node for node in ast.walk(ast.parse(text)) if isinstance(node, (ast.Import, ast.ImportFrom))]


def is_name_set(node):
    return isinstance(node, ast.Name) and node.id == "set"


def targets(comprehension):
    """The names to which a comprehension itself assigns."""
    return {
        node.id for part in comprehension.generators for node in ast.walk(part.target) if isinstance(node, ast.Name)
    }


def comprehensions(node):
    return [inner for inner in ast.walk(node) if isinstance(inner, (ast.ListComp, ast.DictComp))]


def changed_names(body):
    """The names whose value is changed in the rows of a loop, by a method, an item or an attribute."""
    found = set()
    for node in [inner for row in body for inner in ast.walk(row)]:
        if isinstance(node, ast.Call) and isinstance(node.func, ast.Attribute):
            if node.func.attr in ("append", "clear", "extend", "insert", "pop", "remove", "reverse", "setdefault"):
                found |= {inner.id for inner in ast.walk(node.func.value) if isinstance(inner, ast.Name)}
        elif isinstance(node, (ast.Subscript, ast.Attribute)) and isinstance(node.ctx, ast.Store):
            found |= {inner.id for inner in ast.walk(node.value) if isinstance(inner, ast.Name)}
    return found


class Rules(unittest.TestCase):
    def test_sizes_and_characters(self):
        for name, text in sources():
            self.assertEqual(faults(name, text), [])

    def test_the_script_sees_faults(self):
        long = "def f():\n" + "    pass\n" * 40
        self.assertEqual(len(faults("x", long)), 1)
        self.assertEqual(faults("x", "def f():\n" + "    pass\n" * 39), [])
        self.assertEqual(len(faults("x", "\n" * 400)), 1)
        self.assertEqual(faults("x", "\n" * 399), [])
        self.assertEqual(len(faults("x", "#" * 121)), 1)
        self.assertEqual(faults("x", "#" * 120), [])
        for sign in ("\t", "\r", "\xe9", "\x7f", "\x00"):
            text = "# " + sign
            self.assertTrue(set(text) - ALLOWED)
        self.assertEqual(len(faults("x", "#\t")), 1)
        self.assertEqual(len(faults("x", "x = '%'")), 1)

    def test_files(self):
        files = [os.path.basename(path) for path in paths()]
        self.assertIn("__init__.py", files)
        self.assertLessEqual(len(files), 100)
        barred = set(dir(builtins)) | {"test", "tests", "testing", "site", "conftest", "sitecustomize"}
        for name in files:
            self.assertTrue(name.endswith(".py"), name)
            self.assertLessEqual(set(name[:-3]), set(string.ascii_lowercase + string.digits + "_"), name)
            self.assertNotIn(name[:-3], barred | set(LIBRARY))
            self.assertFalse(name.startswith(("law_", "test_")), name)

    def test_strings_together(self):
        total = 0
        for _, text in sources():
            for node in ast.walk(ast.parse(text)):
                if isinstance(node, ast.Constant) and isinstance(node.value, str):
                    total += len(node.value)
        self.assertLessEqual(total, 2000000)

    def test_no_name_of_a_builtin(self):
        # The doctests leave a last value there.
        known = set(dir(builtins)) - {"_"}
        for name, text in sources():
            self.assertEqual(bound_names(text) & known, set(), name)
            self.assertEqual(bound_names(text) & BARRED, set(), name)

    def test_no_other_builtins(self):
        for name, text in sources():
            known = bound_names(text) | {alias.name for node in imports(text) for alias in node.names} | BUILTINS
            used = {node.id for node in ast.walk(ast.parse(text)) if isinstance(node, ast.Name)}
            self.assertEqual(used - known, set(), name)

    def test_no_other_methods(self):
        for name, text in sources():
            for node in ast.walk(ast.parse(text)):
                if isinstance(node, ast.Call) and isinstance(node.func, ast.Attribute):
                    self.assertIn(node.func.attr, METHODS, name)
                    self.assertEqual(node.keywords, [], name)

    def test_no_other_statements_and_expressions(self):
        for name, text in sources():
            for node in ast.walk(ast.parse(text)):
                self.assertIsInstance(node, NODES, (name, getattr(node, "lineno", None)))
                self.assertFalse(getattr(node, "decorator_list", None), name)
                self.assertFalse(getattr(node, "annotation", None) or getattr(node, "returns", None), name)

    def test_sets_are_measured_or_sorted_at_once(self):
        for name, text in sources():
            right = 0
            for node in ast.walk(ast.parse(text)):
                if isinstance(node, ast.Call) and isinstance(node.func, ast.Name) and node.func.id in ("len", "sorted"):
                    inner = node.args[0]
                    right += isinstance(inner, ast.Call) and getattr(inner.func, "id", None) == "set"
            self.assertEqual(len([node for node in ast.walk(ast.parse(text)) if is_name_set(node)]), right, name)

    def test_no_name_of_an_import_in_a_function(self):
        for name, text in sources():
            imported = {alias.name for node in imports(text) for alias in node.names}
            self.assertEqual(bound_names(text) & imported, set(), name)
            used = {node.id for node in ast.walk(ast.parse(text)) if isinstance(node, ast.Name)}
            self.assertEqual(imported - used, set(), name)

    def test_what_a_loop_goes_over_is_not_changed_in_it(self):
        for name, text in sources():
            for loop in ast.walk(ast.parse(text)):
                if isinstance(loop, ast.For):
                    over = {node.id for node in ast.walk(loop.iter) if isinstance(node, ast.Name)}
                    self.assertEqual(over & changed_names(loop.body), set(), (name, loop.lineno))

    def test_inner_comprehensions_take_names_of_their_own(self):
        for name, text in sources():
            for node in functions(text):
                every = comprehensions(node)
                inside = {target for one in every for target in targets(one)}
                plain = {arg.arg for arg in node.args.args}
                for row in ast.walk(node):
                    if isinstance(row, (ast.Assign, ast.AugAssign, ast.For)):
                        parts = row.targets if isinstance(row, ast.Assign) else [row.target]
                        plain |= {part.id for one in parts for part in ast.walk(one) if isinstance(part, ast.Name)}
                self.assertLessEqual(inside | plain, bound_names(text))
                for outer in every:
                    for inner in comprehensions(outer):
                        if inner is not outer:
                            further = (plain | targets(outer)) - {"_"}
                            self.assertEqual(targets(inner) & further, set(), (name, inner.lineno))

    def test_imports_name_the_file_that_defines(self):
        defined = {"fewstamps." + name[:-3]: top_names(text) for name, text in sources()}
        for name, text in sources():
            for node in imports(text):
                self.assertIsInstance(node, ast.ImportFrom, name)
                self.assertEqual(node.level, 0, name)
                if node.module not in LIBRARY:
                    for alias in node.names:
                        self.assertIn(alias.name, defined[node.module], name)

    def test_no_two_files_import_from_each_other(self):
        needs = {}
        for name, text in sources():
            needs["fewstamps." + name[:-3]] = {node.module for node in imports(text)} - set(LIBRARY)
        done = set()
        while len(done) < len(needs):
            ready = {name for name in needs if name not in done and needs[name] <= done}
            self.assertTrue(ready, "a ring of imports")
            done |= ready

    def test_no_attribute_of_a_module_is_state(self):
        for name, text in sources():
            for node in ast.parse(text).body:
                if isinstance(node, ast.Assign):
                    value = node.value.operand if isinstance(node.value, ast.UnaryOp) else node.value
                    self.assertIsInstance(value, ast.Constant, name)


if __name__ == "__main__":
    unittest.main()
