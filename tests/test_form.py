"""Promise 1, and the form of the package: a small part of Python, nothing from outside."""

import ast
import builtins
import pathlib
import re
import subprocess
import sys
import unittest

import whomheeds

FOLDER = pathlib.Path(whomheeds.__file__).parent
FILES = sorted(FOLDER.glob("*.py"))
LIBRARY = {"math": {"gcd", "lcm", "isqrt", "comb", "perm", "factorial"}}
BUILTINS = set("""len range enumerate zip min max sum abs sorted reversed int str bool bytes list tuple dict set
    isinstance ord repr any all divmod LookupError ValueError""".split())
METHODS = set("""append extend insert index count get items keys values pop copy update
    split join partition removeprefix""".split())
# What else stands in single files: the methods and attributes of Board, refusals that are caught, a power.
BOARD = set("""council kept past go_on ask leave settle open_up enter hope drop undo twin members hopes total_of is_held held
    breaker span spoilt_by mended_by turned_by changed idle_arcs""".split())
OWN = {"board.py": BOARD, "desk.py": BOARD}
SPECIAL = {("desk.py", ast.Try), ("texts.py", ast.Pow)}
BARRED = set("""register mro elements open input law version_info with_traceback add_note attrgetter breakpoint builtins
    compile copyright credits delattr dir eval exec exit gc getattr globals hasattr help id importlib license locals
    methodcaller os quit setattr super type vars sys _""".split())
PLAIN = (ast.FunctionDef, ast.ClassDef, ast.ImportFrom)
TABLES = {"pulls.py": ["WORDS"], "desk.py": ["SHAPES"]}


def trees():
    return [(path.name, ast.parse(path.read_text())) for path in FILES]


def nodes(kind):
    return [(name, node) for name, tree in trees() for node in ast.walk(tree) if isinstance(node, kind)]


def bound_names(tree):
    found = set()
    for node in ast.walk(tree):
        if isinstance(node, (ast.FunctionDef, ast.ClassDef)):
            found.add(node.name)
        elif isinstance(node, ast.arg):
            found.add(node.arg)
        elif isinstance(node, ast.Name) and isinstance(node.ctx, ast.Store):
            found.add(node.id)
        elif isinstance(node, ast.alias):
            found.add(node.name)
        elif isinstance(node, ast.MatchAs) and node.name is not None:
            found.add(node.name)
    return found


def is_literal(node):
    """Whether it is a dict or tuple of strings, and of tuples of these, none of them a list or dict."""
    if isinstance(node, ast.Dict):
        parts = node.keys + node.values
        return not any(isinstance(part, ast.Dict) for part in parts) and all(map(is_literal, parts))
    if isinstance(node, ast.Tuple):
        return all(map(is_literal, node.elts))
    return isinstance(node, ast.Constant) and isinstance(node.value, str)


class Form(unittest.TestCase):

    def test_folder(self):
        others = [path.name for path in FOLDER.iterdir() if path.suffix != ".py" and path.name != "__pycache__"]
        self.assertEqual(others, [])
        for path in FILES:
            self.assertTrue(re.fullmatch("[a-z0-9_]+[.]py", path.name))

    def test_size_and_characters(self):
        for path in FILES:
            text = path.read_text()
            self.assertTrue(all(char == "\n" or " " <= char <= "~" for char in text), path.name)
            self.assertLessEqual(len(text.splitlines()), 399, path.name)
            self.assertLessEqual(max(map(len, text.splitlines())), 120, path.name)
        for name, node in nodes(ast.FunctionDef):
            self.assertLessEqual(node.end_lineno - node.lineno + 1, 40, (name, node.name))

    def test_imports(self):
        """No clock, no random source, no file, no network: nothing from outside but plain arithmetic."""
        for name, node in nodes((ast.Import, ast.ImportFrom)):
            self.assertIsInstance(node, ast.ImportFrom, name)
            told = {alias.name for alias in node.names}
            if node.module in LIBRARY:
                self.assertTrue(told <= LIBRARY[node.module], name)
            else:
                package, file = node.module.split(".")
                self.assertEqual(package, "whomheeds")
                tree = ast.parse((FOLDER / f"{file}.py").read_text())
                defined = {part.name for part in tree.body if isinstance(part, (ast.FunctionDef, ast.ClassDef))}
                self.assertTrue(told <= defined, (name, told - defined))
            self.assertTrue(all(alias.asname is None for alias in node.names))

    def test_imports_are_used(self):
        for name, tree in trees():
            used = {node.id for node in ast.walk(tree) if isinstance(node, ast.Name)}
            for node in ast.walk(tree):
                if isinstance(node, ast.ImportFrom):
                    for alias in node.names:
                        self.assertIn(alias.name, used, name)

    def test_importing_brings_no_clock_and_no_random_source(self):
        files = ", ".join(f"whomheeds.{path.stem}" for path in FILES if path.stem != "__init__")
        told = f"import sys; before = set(sys.modules); import {files}; print(sorted(set(sys.modules) - before))"
        run = subprocess.run([sys.executable, "-c", told], cwd=FOLDER.parent, capture_output=True, text=True, check=True)
        brought = [name for name in ast.literal_eval(run.stdout) if not name.startswith("whomheeds")]
        self.assertTrue(set(brought) <= {"math"}, brought)

    def test_no_import_goes_round(self):
        leads = {name: {node.module.split(".")[1] + ".py" for node in ast.walk(tree)
                        if isinstance(node, ast.ImportFrom) and node.module.startswith("whomheeds")}
                 for name, tree in trees()}
        while leads:
            free = [name for name, more in leads.items() if not more & set(leads)]
            self.assertNotEqual(free, [], leads)
            for name in free:
                del leads[name]

    def test_module_level(self):
        for name, tree in trees():
            self.assertIsNotNone(ast.get_docstring(tree), name)
            tables = [node for node in tree.body if isinstance(node, ast.Assign)]
            self.assertEqual([target.id for node in tables for target in node.targets], TABLES.get(name, []))
            self.assertTrue(all(is_literal(node.value) for node in tables), name)
            for node in tree.body[1:]:
                self.assertIsInstance(node, PLAIN + (ast.Assign,), name)
            names = [node.name for node in tree.body if isinstance(node, (ast.FunctionDef, ast.ClassDef))]
            self.assertEqual(len(names), len(set(names)), name)

    def test_names(self):
        for name, tree in trees():
            bound = bound_names(tree)
            self.assertEqual(bound & (set(dir(builtins)) | (BARRED - {"_"})), set(), name)
            tops = {part.name for part in tree.body if isinstance(part, (ast.FunctionDef, ast.ClassDef))}
            tops |= {alias.name for part in tree.body if isinstance(part, ast.ImportFrom) for alias in part.names}
            for node in ast.walk(tree):
                if isinstance(node, ast.Name) and isinstance(node.ctx, ast.Load):
                    self.assertIn(node.id, (bound | BUILTINS) - {"_"}, name)
                if isinstance(node, ast.Name) and isinstance(node.ctx, ast.Store):
                    self.assertNotIn(node.id, tops, name)
                if isinstance(node, ast.arg):
                    self.assertNotIn(node.arg, tops, name)

    def test_what_is_used_of_python(self):
        barred = (ast.Global, ast.Nonlocal, ast.AsyncFunctionDef, ast.Yield, ast.YieldFrom, ast.Div, ast.Set,
                  ast.SetComp, ast.Try, ast.With, ast.GeneratorExp, ast.NamedExpr, ast.JoinedStr, ast.AnnAssign,
                  ast.Starred, ast.Pow, ast.MatMult)
        found = [(name, node) for name, node in nodes(barred) if (name, node.__class__) not in SPECIAL]
        self.assertEqual([(name, getattr(node, "lineno", None)) for name, node in found], [])
        for name, node in nodes((ast.FunctionDef, ast.ClassDef)):
            self.assertEqual(node.decorator_list, [])
        for name, node in nodes(ast.Constant):
            self.assertIn(node.value.__class__, (int, str, bool, None.__class__), name)
            if isinstance(node.value, str):
                self.assertNotIn("%", node.value)

    def test_methods(self):
        for name, node in nodes(ast.Attribute):
            if isinstance(node.ctx, ast.Load):
                self.assertIn(node.attr, METHODS | OWN.get(name, set()), name)
            else:
                self.assertIn((name, node.value.id), (("errors.py", "self"), ("board.py", "self"), ("board.py", "board")))

    def test_refusals_that_are_caught(self):
        """Own errors alone, each by its name, not kept."""
        own = {node.name for name, node in nodes(ast.ClassDef) if name == "errors.py"}
        for name, node in nodes(ast.ExceptHandler):
            self.assertEqual(name, "desk.py")
            self.assertIn(node.type.id, own)
            self.assertIsNone(node.name)

    def test_what_cases_capture(self):
        """A captured name is nothing else in its function: no parameter, no variable of a loop, not assigned."""
        for name, function in nodes(ast.FunctionDef):
            captured = {node.name for node in ast.walk(function) if isinstance(node, ast.MatchAs)} - {None}
            others = {node.arg for node in ast.walk(function) if isinstance(node, ast.arg)}
            others |= {node.id for node in ast.walk(function) if isinstance(node, ast.Name) and isinstance(node.ctx, ast.Store)}
            self.assertEqual(captured & others, set(), (name, function.name))

    def test_classes(self):
        found = [(name, node.name) for name, node in nodes(ast.ClassDef) if name != "errors.py"]
        self.assertEqual(found, [("board.py", "Board")])
        for name, node in nodes(ast.ClassDef):
            double = {part.name for part in node.body if isinstance(part, ast.FunctionDef) and part.name.startswith("__")}
            self.assertTrue(double <= {"__init__", "__eq__", "__len__"}, name)


if __name__ == "__main__":
    unittest.main()
