"""What a small script can see of LANGUAGE.md: sizes, characters, files, imports and names."""

import ast
import builtins
import os
import string
import unittest

ROOT = os.path.dirname(os.path.dirname(os.path.abspath(__file__)))
PACKAGE = os.path.join(ROOT, "fewstamps")
ALLOWED = set(chr(code) for code in range(32, 127)) | {"\n"}
LIBRARY = ("heapq", "math", "itertools", "collections")
# L8, without the error classes, and without what no file so far has a use for.
BUILTINS = {
    "len", "range", "enumerate", "zip", "min", "max", "sum", "abs", "sorted", "reversed", "int", "str", "bool",
    "list", "tuple", "dict", "set", "isinstance", "any", "all", "iter", "True", "False", "None", "RuntimeError",
    "LookupError", "ValueError",
}
# L25.
METHODS = {
    "append", "clear", "copy", "count", "endswith", "extend", "find", "get", "index", "insert", "isalnum",
    "isalpha", "isdigit", "islower", "isspace", "isupper", "items", "join", "keys", "ljust", "lower", "lstrip",
    "partition", "pop", "remove", "replace", "reverse", "rfind", "rjust", "rpartition", "rsplit", "rstrip",
    "setdefault", "split", "splitlines", "startswith", "strip", "update", "upper", "values", "zfill", "bit_length",
}
# L17.
BARRED = {
    "register", "mro", "elements", "open", "input", "law", "version_info", "attrgetter", "breakpoint", "builtins",
    "compile", "copyright", "credits", "delattr", "dir", "eval", "exec", "exit", "gc", "getattr", "globals",
    "hasattr", "help", "id", "importlib", "license", "locals", "methodcaller", "os", "quit", "setattr", "super",
    "type", "vars", "sys",
}
# What L6 and L7 allow, as far as there is a use for it; no with, no lambda, no generator.
NODES = (
    ast.Module, ast.FunctionDef, ast.ClassDef, ast.ImportFrom, ast.alias, ast.arguments, ast.arg, ast.Expr,
    ast.Assign, ast.AugAssign, ast.Return, ast.If, ast.For, ast.While, ast.Pass, ast.Raise, ast.Break, ast.Continue,
    ast.Name, ast.Load, ast.Store, ast.Constant, ast.Tuple, ast.List, ast.Dict, ast.Call, ast.keyword,
    ast.Attribute, ast.Subscript, ast.Slice, ast.Compare, ast.BoolOp, ast.BinOp, ast.UnaryOp, ast.IfExp,
    ast.ListComp, ast.DictComp, ast.comprehension, ast.And, ast.Or, ast.Not, ast.Add, ast.Sub, ast.Mult,
    ast.FloorDiv, ast.BitAnd, ast.BitOr, ast.RShift, ast.LShift, ast.USub, ast.Eq, ast.NotEq, ast.Lt, ast.LtE,
    ast.Gt, ast.GtE, ast.Is, ast.IsNot, ast.In, ast.NotIn, ast.Try, ast.ExceptHandler, ast.Starred,
    ast.JoinedStr, ast.FormattedValue,
)
CHANGING = ("append", "clear", "extend", "insert", "pop", "remove", "reverse", "setdefault")


def paths():
    return [os.path.join(PACKAGE, name) for name in sorted(os.listdir(PACKAGE)) if name != "__pycache__"]


def text_of(path):
    with open(path, encoding="utf-8", newline="") as file:
        return file.read()


def sources():
    return [(os.path.basename(path), text_of(path)) for path in paths()]


def functions(text):
    return [node for node in ast.walk(ast.parse(text)) if isinstance(node, ast.FunctionDef)]


def faults(name, text):
    """What is wrong with one file by L10, L14 and L27, as far as this script looks."""
    found = []
    lines = text.split("\n")
    if len(text.splitlines()) > 399:
        found.append((name, "too many lines"))
    for number, line in enumerate(lines, 1):
        if len(line) > 120:
            found.append((name, number, "too long"))
        if set(line) - ALLOWED:
            found.append((name, number, "a character"))
    for node in functions(text):
        if node.end_lineno - node.lineno + 1 > 40:
            found.append((name, node.lineno, "too long a function"))
    for node in ast.walk(ast.parse(text)):
        if isinstance(node, ast.Constant) and isinstance(node.value, str) and "%" in node.value:
            found.append((name, node.lineno, "a percent sign"))
    return found


def bound_names(text):
    """The names that the file gives to functions, classes, parameters and variables."""
    found = set()
    for node in ast.walk(ast.parse(text)):
        if isinstance(node, (ast.FunctionDef, ast.ClassDef)):
            found.add(node.name)
        elif isinstance(node, ast.arg):
            found.add(node.arg)
        elif isinstance(node, ast.Name) and not isinstance(node.ctx, ast.Load):
            found.add(node.id)
    return found


def top_names(text):
    """The names that the file itself defines at module level."""
    found = set()
    for node in ast.parse(text).body:
        if isinstance(node, (ast.FunctionDef, ast.ClassDef)):
            found.add(node.name)
        elif isinstance(node, ast.Assign):
            found.update(target.id for target in node.targets)
    return found


def imports(text):
    return [node for node in ast.walk(ast.parse(text)) if isinstance(node, (ast.Import, ast.ImportFrom))]


def is_name_set(node):
    return isinstance(node, ast.Name) and node.id == "set"


def targets(comprehension):
    """The names to which a comprehension itself assigns."""
    return {
        node.id for part in comprehension.generators for node in ast.walk(part.target) if isinstance(node, ast.Name)
    }


def comprehensions(node):
    return [inner for inner in ast.walk(node) if isinstance(inner, (ast.ListComp, ast.DictComp))]


def dotted(node):
    """The names in an expression, and the attributes of names (`self.rows`) instead of these names."""
    whole = [
        inner for inner in ast.walk(node) if isinstance(inner, ast.Attribute) and isinstance(inner.value, ast.Name)
    ]
    inside = [inner.value for inner in whole]
    plain = [inner.id for inner in ast.walk(node) if isinstance(inner, ast.Name) and inner not in inside]
    return set(plain) | {"." + inner.attr for inner in whole}


def changed_names(body):
    """The names and attributes whose value is changed in the rows of a loop, by a method, an item or an attribute."""
    found = set()
    for node in [inner for row in body for inner in ast.walk(row)]:
        if isinstance(node, ast.Call) and isinstance(node.func, ast.Attribute) and node.func.attr in CHANGING:
            found |= dotted(node.func.value)
        elif isinstance(node, ast.Subscript) and isinstance(node.ctx, ast.Store):
            found |= dotted(node.value)
        elif isinstance(node, ast.Attribute) and isinstance(node.ctx, ast.Store):
            found |= dotted(node)
    return found


def own_classes():
    """The classes of the package: a name, its tree, and whether it is an error class."""
    found = []
    for _, text in sources():
        for node in ast.walk(ast.parse(text)):
            if isinstance(node, ast.ClassDef):
                found.append((node.name, node, bool(node.bases)))
    return found


def own_methods():
    return {row.name for _, node, _ in own_classes() for row in node.body if isinstance(row, ast.FunctionDef)}


def is_plain(node, known):
    """Whether a value at module level is plain: a constant, or a dict or tuple of constants and functions above."""
    if isinstance(node, ast.UnaryOp):
        node = node.operand
    if isinstance(node, (ast.Dict, ast.Tuple)):
        parts = node.keys + node.values if isinstance(node, ast.Dict) else node.elts
        return all(isinstance(part, ast.Constant) or getattr(part, "id", None) in known for part in parts)
    return isinstance(node, ast.Constant)


class Rules(unittest.TestCase):
    def test_sizes_and_characters(self):
        for name, text in sources():
            self.assertEqual(faults(name, text), [])

    def test_the_script_sees_faults(self):
        long = "def f():\n" + "    pass\n" * 40
        self.assertEqual(len(faults("x", long)), 1)
        self.assertEqual(faults("x", "def f():\n" + "    pass\n" * 39), [])
        self.assertEqual(len(faults("x", "\n" * 400)), 1)
        self.assertEqual(faults("x", "\n" * 399), [])
        self.assertEqual(len(faults("x", "#" * 121)), 1)
        self.assertEqual(faults("x", "#" * 120), [])
        for sign in ("\t", "\r", "\xe9", "\x7f", "\x00"):
            text = "# " + sign
            self.assertTrue(set(text) - ALLOWED)
        self.assertEqual(len(faults("x", "#\t")), 1)
        self.assertEqual(len(faults("x", "x = '%'")), 1)

    def test_files(self):
        files = [os.path.basename(path) for path in paths()]
        self.assertIn("__init__.py", files)
        self.assertLessEqual(len(files), 100)
        barred = set(dir(builtins)) | {"test", "tests", "testing", "site", "conftest", "sitecustomize"}
        for name in files:
            self.assertTrue(name.endswith(".py"), name)
            self.assertLessEqual(set(name[:-3]), set(string.ascii_lowercase + string.digits + "_"), name)
            self.assertNotIn(name[:-3], barred | set(LIBRARY))
            self.assertFalse(name.startswith(("law_", "test_")), name)

    def test_strings_together(self):
        total = 0
        for _, text in sources():
            for node in ast.walk(ast.parse(text)):
                if isinstance(node, ast.Constant) and isinstance(node.value, str):
                    total += len(node.value)
        self.assertLessEqual(total, 2000000)

    def test_no_name_of_a_builtin(self):
        # The doctests leave a last value there.
        known = set(dir(builtins)) - {"_"}
        for name, text in sources():
            self.assertEqual(bound_names(text) & known, set(), name)
            self.assertEqual(bound_names(text) & BARRED, set(), name)

    def test_no_other_builtins(self):
        for name, text in sources():
            known = bound_names(text) | {alias.name for node in imports(text) for alias in node.names} | BUILTINS
            used = {node.id for node in ast.walk(ast.parse(text)) if isinstance(node, ast.Name)}
            self.assertEqual(used - known, set(), name)

    def test_no_other_methods(self):
        known = METHODS | own_methods()
        for name, text in sources():
            for node in ast.walk(ast.parse(text)):
                if isinstance(node, ast.Call) and isinstance(node.func, ast.Attribute):
                    self.assertIn(node.func.attr, known, name)
                    self.assertEqual(node.keywords, [], name)

    def test_no_other_statements_and_expressions(self):
        for name, text in sources():
            for node in ast.walk(ast.parse(text)):
                self.assertIsInstance(node, NODES, (name, getattr(node, "lineno", None)))
                self.assertFalse(getattr(node, "decorator_list", None), name)
                self.assertFalse(getattr(node, "annotation", None) or getattr(node, "returns", None), name)

    def test_sets_are_measured_or_sorted_at_once(self):
        for name, text in sources():
            right = 0
            for node in ast.walk(ast.parse(text)):
                if isinstance(node, ast.Call) and isinstance(node.func, ast.Name) and node.func.id in ("len", "sorted"):
                    inner = node.args[0]
                    right += isinstance(inner, ast.Call) and getattr(inner.func, "id", None) == "set"
            self.assertEqual(len([node for node in ast.walk(ast.parse(text)) if is_name_set(node)]), right, name)

    def test_no_name_of_an_import_in_a_function(self):
        for name, text in sources():
            imported = {alias.name for node in imports(text) for alias in node.names}
            self.assertEqual(bound_names(text) & imported, set(), name)
            used = {node.id for node in ast.walk(ast.parse(text)) if isinstance(node, ast.Name)}
            self.assertEqual(imported - used, set(), name)

    def test_what_a_loop_goes_over_is_not_changed_in_it(self):
        for name, text in sources():
            for loop in ast.walk(ast.parse(text)):
                if isinstance(loop, ast.For):
                    self.assertEqual(dotted(loop.iter) & changed_names(loop.body), set(), (name, loop.lineno))

    def test_the_script_sees_changes_in_a_loop(self):
        for text, right in (
            ("for x in xs: xs.append(1)", {"xs"}), ("for x in self.rows: self.rows[0] = x", {".rows"}),
            ("for x in self.rows: self.names.append(x)", set()), ("for x in xs: ys[xs[0]] = 1", set()),
            ("for x in self.rows: self.rows = 1", {".rows"}), ("for x in zip(xs, ys): ys.pop()", {"ys"}),
        ):
            loop = ast.parse(text).body[0]
            self.assertEqual(dotted(loop.iter) & changed_names(loop.body), right, text)

    def test_errors_are_caught_and_raised_by_the_names_of_own_classes(self):
        errors = {name for name, _, is_error in own_classes() if is_error}
        for name, text in sources():
            for node in ast.walk(ast.parse(text)):
                if isinstance(node, ast.ExceptHandler):
                    self.assertIn(node.type.id, errors, name)
                    self.assertIsNone(node.name, name)
                elif isinstance(node, ast.Raise):
                    self.assertIn(node.exc.func.id, errors, name)
                elif isinstance(node, ast.Try):
                    self.assertEqual((node.orelse, node.finalbody), ([], []), name)

    def test_no_name_is_a_method_and_an_attribute(self):
        attributes = {
            node.attr for _, text in sources() for node in ast.walk(ast.parse(text))
            if isinstance(node, ast.Attribute) and isinstance(node.ctx, ast.Store)
        }
        self.assertEqual(attributes & own_methods(), set())
        builtin = {name for value in ("", 0, [], {}, set(), b"") for name in dir(value)} - set(dir(object))
        self.assertEqual((attributes | own_methods()) & builtin, {"__iter__", "__len__"})
        for name, node, _ in own_classes():
            methods = [row.name for row in node.body if isinstance(row, ast.FunctionDef)]
            self.assertEqual(len(methods), len(set(methods)), name)

    def test_iter_is_asked_in_one_place(self):
        for name, text in sources():
            for node in functions(text):
                if "iter" in {inner.id for inner in ast.walk(node) if isinstance(inner, ast.Name)}:
                    self.assertEqual((name, node.name, len(node.body)), ("book.py", "__iter__", 1))

    def test_a_star_stands_before_a_name_alone(self):
        for name, text in sources():
            for node in ast.walk(ast.parse(text)):
                if isinstance(node, ast.Call) and any(isinstance(part, ast.Starred) for part in node.args):
                    for part in node.args:
                        inner = part.value if isinstance(part, ast.Starred) else part
                        self.assertIsInstance(inner, ast.Name, (name, node.lineno))

    def test_tables_are_only_read(self):
        for name, text in sources():
            tree = ast.parse(text)
            assigned = [row for row in tree.body if isinstance(row, ast.Assign)]
            tables = {row.targets[0].id for row in assigned if isinstance(row.value, ast.Dict)}
            right = 0
            for node in ast.walk(tree):
                if isinstance(node, ast.Subscript) and isinstance(node.ctx, ast.Load):
                    right += getattr(node.value, "id", None) in tables
                elif isinstance(node, ast.Compare) and isinstance(node.ops[0], ast.In):
                    right += getattr(node.comparators[0], "id", None) in tables
            used = [node for node in ast.walk(tree) if isinstance(node, ast.Name) and node.id in tables]
            self.assertEqual(len(used) - len(tables), right, name)

    def test_inner_comprehensions_take_names_of_their_own(self):
        for name, text in sources():
            for node in functions(text):
                every = comprehensions(node)
                inside = {target for one in every for target in targets(one)}
                plain = {arg.arg for arg in node.args.args}
                for row in ast.walk(node):
                    if isinstance(row, (ast.Assign, ast.AugAssign, ast.For)):
                        parts = row.targets if isinstance(row, ast.Assign) else [row.target]
                        plain |= {part.id for one in parts for part in ast.walk(one) if isinstance(part, ast.Name)}
                self.assertLessEqual(inside | plain, bound_names(text))
                for outer in every:
                    for inner in comprehensions(outer):
                        if inner is not outer:
                            further = (plain | targets(outer)) - {"_"}
                            self.assertEqual(targets(inner) & further, set(), (name, inner.lineno))

    def test_imports_name_the_file_that_defines(self):
        defined = {"fewstamps." + name[:-3]: top_names(text) for name, text in sources()}
        for name, text in sources():
            for node in imports(text):
                self.assertIsInstance(node, ast.ImportFrom, name)
                self.assertEqual(node.level, 0, name)
                if node.module not in LIBRARY:
                    for alias in node.names:
                        self.assertIn(alias.name, defined[node.module], name)

    def test_no_two_files_import_from_each_other(self):
        needs = {}
        for name, text in sources():
            needs["fewstamps." + name[:-3]] = {node.module for node in imports(text)} - set(LIBRARY)
        done = set()
        while len(done) < len(needs):
            ready = {name for name in needs if name not in done and needs[name] <= done}
            self.assertTrue(ready, "a ring of imports")
            done |= ready

    def test_no_attribute_of_a_module_is_state(self):
        for name, text in sources():
            known = set()
            for node in ast.parse(text).body:
                if isinstance(node, ast.FunctionDef):
                    known.add(node.name)
                elif isinstance(node, ast.Assign):
                    self.assertTrue(is_plain(node.value, known), (name, node.lineno))
                    self.assertEqual(len(node.targets), 1, name)


if __name__ == "__main__":
    unittest.main()
