"""The rules of LANGUAGE.md that a short look at the files can check; the other ones are for a reader."""

import ast
import builtins
import os
import re
import unittest
import warnings

FOLDER = os.path.join(os.path.dirname(os.path.dirname(os.path.abspath(__file__))), "leadswitch")
BUILTINS = """
len range enumerate zip min max sum abs sorted reversed int str bool bytes list tuple dict set frozenset isinstance ord
repr any all divmod pow iter next map super property staticmethod classmethod getattr hasattr setattr object Exception
ValueError TypeError KeyError IndexError LookupError ZeroDivisionError ArithmeticError OverflowError RuntimeError
NotImplementedError AttributeError StopIteration NotImplemented
""".split()
LIBRARY = ("heapq", "math", "itertools", "collections")
CHANGING = ("append", "pop", "remove", "insert", "extend", "clear", "reverse", "setdefault", "update")
DOUBLE = re.compile("__[a-z]+__$")


def sources():
    """Return tuples (name, text, tree) of all files of the package."""
    found = []
    for name in sorted(os.listdir(FOLDER)):
        if name != "__pycache__":
            with open(os.path.join(FOLDER, name), encoding="utf-8", newline="") as file:
                text = file.read()
            with warnings.catch_warnings():
                warnings.simplefilter("error")
                tree = compile(text, name, "exec", ast.PyCF_ONLY_AST)
                compile(text, name, "exec")
            found.append((name, text, tree))
    return found


def nodes_of(kinds):
    """Return tuples (place, node) of all nodes of these kinds."""
    found = []
    for name, _, tree in sources():
        for node in ast.walk(tree):
            if isinstance(node, kinds):
                found.append((f"{name}:{getattr(node, 'lineno', 0)}", node))
    return found


def defined_names():
    """Return a dict of the names that each file defines."""
    found = {}
    for name, _, tree in sources():
        names = [node.name for node in tree.body if isinstance(node, (ast.FunctionDef, ast.ClassDef))]
        names += [target.id for node in tree.body if isinstance(node, ast.Assign) for target in node.targets]
        found["leadswitch." + name[:-3]] = names
    return found


class LanguageTest(unittest.TestCase):
    def test_files_and_characters(self):
        for name, text, _ in sources():
            self.assertRegex(name, "^[a-z_][a-z0-9_]*[.]py$")
            self.assertTrue(re.fullmatch("[ -~\n]*", text), name)
            self.assertLessEqual(text.count("\n"), 399, name)
            self.assertLessEqual(max([len(row) for row in text.split("\n")]), 120, name)

    def test_functions_are_short(self):
        for place, node in nodes_of(ast.FunctionDef):
            self.assertLessEqual(node.end_lineno - node.lineno + 1, 40, place)

    def test_modules_hold_only_what_they_may(self):
        for name, _, tree in sources():
            for at, node in enumerate(tree.body):
                docstring = at == 0 and isinstance(node, ast.Expr) and isinstance(node.value, ast.Constant)
                plain = isinstance(node, (ast.ImportFrom, ast.FunctionDef, ast.ClassDef, ast.Assign))
                self.assertTrue(docstring or plain, f"{name}:{node.lineno}")

    def test_imports_name_the_file_that_defines(self):
        defined = defined_names()
        for place, node in nodes_of((ast.Import, ast.ImportFrom)):
            self.assertIsInstance(node, ast.ImportFrom, place)
            self.assertEqual(node.level, 0, place)
            if node.module not in LIBRARY:
                for alias in node.names:
                    self.assertIn(alias.name, defined[node.module], place)

    def test_no_files_import_from_each_other(self):
        left = {}
        for name, _, tree in sources():
            imported = [node.module for node in tree.body if isinstance(node, ast.ImportFrom)]
            left["leadswitch." + name[:-3]] = {module for module in imported if module not in LIBRARY}
        while left:
            done = [name for name, modules in left.items() if not modules & set(left)]
            self.assertTrue(done, left)
            left = {name: modules for name, modules in left.items() if name not in done}

    def test_names(self):
        for place, node in nodes_of(ast.Name):
            if hasattr(builtins, node.id) and node.id != "_":
                self.assertIn(node.id, BUILTINS, place)
                self.assertIsInstance(node.ctx, ast.Load, place)
        for place, node in nodes_of((ast.FunctionDef, ast.ClassDef, ast.arg)):
            word = node.arg if isinstance(node, ast.arg) else node.name
            self.assertTrue(not word.startswith("__") or DOUBLE.match(word), place)

    def test_imported_names_are_used_and_mean_nothing_else(self):
        for name, _, tree in sources():
            imported = {alias.name for node in tree.body if isinstance(node, ast.ImportFrom) for alias in node.names}
            used = {node.id for node in ast.walk(tree) if isinstance(node, ast.Name) and isinstance(node.ctx, ast.Load)}
            given = {node.id for node in ast.walk(tree) if isinstance(node, ast.Name)
                     and not isinstance(node.ctx, ast.Load)}
            given |= {node.arg for node in ast.walk(tree) if isinstance(node, ast.arg)}
            # A method may have the name of an import.
            methods = [row for node in tree.body if isinstance(node, ast.ClassDef) for row in node.body]
            given |= {node.name for node in ast.walk(tree) if isinstance(node, (ast.FunctionDef, ast.ClassDef))
                      and node not in methods}
            self.assertEqual([imported - used, imported & given], [set(), set()], name)

    def test_lists_that_a_loop_goes_over_are_not_changed_in_it(self):
        for place, node in nodes_of(ast.For):
            names = {ast.unparse(each) for each in ast.walk(node.iter) if isinstance(each, (ast.Name, ast.Attribute))}
            for each in [inner for row in node.body for inner in ast.walk(row)]:
                if isinstance(each, ast.Call) and isinstance(each.func, ast.Attribute):
                    if each.func.attr in CHANGING:
                        self.assertNotIn(ast.unparse(each.func.value), names, place)
                if isinstance(each, ast.Subscript) and not isinstance(each.ctx, ast.Load):
                    self.assertNotIn(ast.unparse(each.value), names, place)

    def test_values(self):
        for place, node in nodes_of(ast.Constant):
            self.assertNotIsInstance(node.value, (float, complex), place)
            if isinstance(node.value, str):
                self.assertNotIn(chr(37), node.value, place)

    def test_statements_and_signs_that_are_not_used(self):
        self.assertEqual(nodes_of((ast.Div, ast.Global, ast.AsyncFunctionDef, ast.Await)), [])


if __name__ == "__main__":
    unittest.main()
