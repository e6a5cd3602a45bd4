"""The rules of the language that can be asked for at a glance."""

import ast
import builtins
import os
import re
import unittest

FOLDER = os.path.join(os.path.dirname(os.path.dirname(os.path.abspath(__file__))), "besidealone")

BUILTINS = set("""len range enumerate zip min max sum abs sorted reversed int str bool bytes list tuple dict set frozenset
isinstance ord repr any all divmod pow getattr hasattr setattr iter next map type super property staticmethod classmethod
Exception ValueError TypeError KeyError IndexError LookupError ZeroDivisionError ArithmeticError OverflowError RuntimeError
NotImplementedError AttributeError StopIteration NotImplemented object""".split())
METHODS = set("""append clear copy count endswith extend find get index insert isalnum isalpha isdigit islower isspace
isupper items join keys ljust lower lstrip partition pop remove replace reverse rfind rjust rpartition rsplit rstrip
setdefault split splitlines startswith strip update upper values zfill bit_length add discard sort""".split())
BARRED = (ast.Import, ast.Global, ast.AsyncFunctionDef, ast.AsyncFor, ast.AsyncWith, ast.Await, ast.Div, ast.MatMult)
# A session of doctest leaves the sign "_" among the builtins.
KNOWN = set(dir(builtins)) - {"_"}
FILES = sorted([name for name in os.listdir(FOLDER) if name != "__pycache__"])


def text_of(name):
    with open(os.path.join(FOLDER, name), encoding="utf-8") as file:
        return file.read()


def tree_of(name):
    return ast.parse(text_of(name))


def bound_in(function):
    """The NAMES of the parameters and local variables of a function."""
    names = {own.arg for own in ast.walk(function) if isinstance(own, ast.arg)}
    return names | {own.id for own in ast.walk(function) if isinstance(own, ast.Name) and isinstance(own.ctx, ast.Store)}


class Language(unittest.TestCase):

    def test_files(self):
        self.assertEqual(text_of("__init__.py"), "")
        for name in FILES:
            text = text_of(name)
            self.assertRegex(name, r"^[a-z_]+\.py$")
            self.assertRegex(text, r"\A[ -~\n]*\Z")
            self.assertLessEqual(len(text.split("\n")), 399)
            for line in text.split("\n"):
                self.assertLessEqual(len(line), 120, (name, line))
                self.assertEqual(line, line.rstrip())

    def test_functions(self):
        for name in FILES:
            within = {own for node in ast.walk(tree_of(name)) if isinstance(node, ast.FunctionDef)
                      for own in [(inner.lineno, inner.name) for inner in ast.walk(node) if inner is not node
                                  and isinstance(inner, ast.FunctionDef)]}
            for node in ast.walk(tree_of(name)):
                if isinstance(node, (ast.FunctionDef, ast.ClassDef)) and (node.lineno, node.name) not in within:
                    self.assertTrue(ast.get_docstring(node) or node.name in ("__init__", "__eq__"), (name, node.name))
                if isinstance(node, ast.FunctionDef):
                    self.assertLessEqual(node.end_lineno - node.lineno + 1, 40, (name, node.name))

    def test_statements_and_expressions(self):
        for name in FILES:
            for node in ast.walk(tree_of(name)):
                self.assertNotIsInstance(node, BARRED, name)
                if isinstance(node, ast.Constant):
                    self.assertNotIsInstance(node.value, (float, complex, bytes))

    def test_imports(self):
        seen = []
        for name in FILES:
            for node in ast.walk(tree_of(name)):
                if isinstance(node, ast.ImportFrom) and node.module == "heapq":
                    self.assertLessEqual({own.name for own in node.names}, {"heappop", "heappush", "heapify"})
                elif isinstance(node, ast.ImportFrom):
                    self.assertRegex(node.module, r"^besidealone\.[a-z]+$")
                    made = tree_of(node.module.split(".")[1] + ".py")
                    for own in node.names:
                        self.assertIsNone(own.asname)
                        self.assertIn(own.name, self.defined(made), (name, own.name))
                        seen.append((name, own.name))
        for name, own in seen:
            used = len(re.findall(r"\b" + own + r"\b", text_of(name)))
            self.assertGreater(used, 1, (name, own))

    def defined(self, tree):
        names = [node.name for node in tree.body if isinstance(node, (ast.FunctionDef, ast.ClassDef))]
        return names + [node.targets[0].id for node in tree.body if isinstance(node, ast.Assign)]

    def test_names(self):
        for name in FILES:
            tree = tree_of(name)
            imported = {own.name for node in tree.body if isinstance(node, ast.ImportFrom) for own in node.names}
            top = self.defined(tree)
            self.assertEqual(len(top), len(set(top)))
            self.assertFalse(set(top) & imported)
            self.assertFalse(set(top) & KNOWN)
            classes = {node.name for node in tree.body if isinstance(node, ast.ClassDef)}
            for node in ast.walk(tree):
                if isinstance(node, ast.FunctionDef):
                    self.assertFalse(bound_in(node) & (imported | classes | KNOWN), (name, node.name))

    def test_builtins_and_methods(self):
        own = {node.name for name in FILES for node in ast.walk(tree_of(name)) if isinstance(node, ast.FunctionDef)}
        for name in FILES:
            for node in ast.walk(tree_of(name)):
                if isinstance(node, ast.Name) and node.id in KNOWN:
                    self.assertIn(node.id, BUILTINS, (name, node.lineno))
                if isinstance(node, ast.Call) and isinstance(node.func, ast.Attribute):
                    self.assertIn(node.func.attr, METHODS | own, (name, node.lineno))

    def test_sets_are_not_iterated(self):
        for name in FILES:
            for node in ast.walk(tree_of(name)):
                places = [node.iter] if isinstance(node, (ast.For, ast.comprehension)) else []
                for place in places:
                    self.assertNotIsInstance(place, (ast.Set, ast.SetComp), (name, place.lineno))
                    if isinstance(place, ast.Call) and isinstance(place.func, ast.Name):
                        self.assertNotEqual(place.func.id, "set", (name, place.lineno))


if __name__ == "__main__":
    unittest.main()
