"""The package keeps to the subset that it is written in, as far as its text shows this plainly."""

import ast
import builtins
import os
import unittest

import talkplans

FOLDER = os.path.dirname(talkplans.__file__)
BUILTINS = {"len", "range", "enumerate", "zip", "min", "max", "sum", "abs", "sorted", "reversed", "int", "str", "bool",
            "list", "tuple", "dict", "set", "isinstance", "ord", "repr", "any", "all", "divmod", "type"}
LEFT_OUT = (ast.AsyncFunctionDef, ast.Await, ast.Div, ast.MatMult, ast.Import)
LIBRARY = ("heapq", "math", "itertools", "collections")


def files():
    for name in sorted(os.listdir(FOLDER)):
        if name != "__pycache__":
            with open(os.path.join(FOLDER, name), encoding="utf-8", newline="") as file:
                yield name, file.read()


def nodes():
    for name, text in files():
        for node in ast.walk(ast.parse(text)):
            yield name, node


class Language(unittest.TestCase):
    def test_files_lines_and_signs(self):
        for name, text in files():
            self.assertRegex(name, "^[a-z0-9_]+[.]py$")
            self.assertLessEqual(len(text.splitlines()), 399, name)
            for line in text.split("\n"):
                self.assertLessEqual(len(line), 120, name)
                self.assertTrue(all(" " <= sign <= "~" for sign in line), (name, line))

    def test_functions(self):
        for name, node in nodes():
            if isinstance(node, ast.FunctionDef):
                self.assertLessEqual(node.end_lineno - node.lineno + 1, 40, (name, node.name))

    def test_imports(self):
        for name, node in nodes():
            if isinstance(node, ast.ImportFrom):
                self.assertEqual(node.level, 0)
                self.assertTrue(node.module.startswith("talkplans.") or node.module in LIBRARY, (name, node.module))

    def test_what_is_left_out(self):
        for name, node in nodes():
            self.assertNotIsInstance(node, LEFT_OUT, name)
            if isinstance(node, ast.Constant):
                self.assertNotIsInstance(node.value, (float, complex), name)

    def test_builtins(self):
        known = [name for name in dir(builtins) if not name.startswith("_") and name != "ValueError"]
        for name, node in nodes():
            if isinstance(node, ast.Name) and node.id in known:
                self.assertIn(node.id, BUILTINS, name)
                self.assertIsInstance(node.ctx, ast.Load, name)


if __name__ == "__main__":
    unittest.main()
