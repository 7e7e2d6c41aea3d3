"""A watch over those rules of the language that a file's text or its syntax tree shows plainly."""

import ast
import builtins
import os
import re
import unittest

import gunclocks

FOLDER = os.path.dirname(os.path.abspath(gunclocks.__file__))
LIBRARY = {"heapq", "math", "itertools", "collections", "__future__"}
NOWHERE = {"register", "mro", "elements", "open", "input", "law", "version_info", "with_traceback", "add_note"}
ALLOWED = set("""
    len range enumerate zip min max sum abs sorted reversed int str bool bytes list tuple dict set
    frozenset isinstance ord repr any all divmod pow getattr hasattr setattr iter next map super
    property staticmethod classmethod object float Exception ValueError TypeError KeyError IndexError
    LookupError ZeroDivisionError ArithmeticError OverflowError RuntimeError NotImplementedError
    AttributeError StopIteration NotImplemented True False None
""".split())
BARRED = (ast.Global, ast.AsyncFunctionDef, ast.AsyncFor, ast.AsyncWith, ast.Await, ast.Div)


def files():
    found = []
    for folder, folders, names in os.walk(FOLDER):
        folders[:] = [name for name in folders if name != "__pycache__"]
        found += [os.path.join(folder, name) for name in names]
    return sorted(found)


def text_of(path):
    with open(path, encoding="utf-8", newline="") as file:
        return file.read()


def name_of(node):
    for field in ("id", "name", "arg", "attr"):
        if isinstance(getattr(node, field, None), str):
            return getattr(node, field)
    return None


def faults_of(tree, main):
    faults = []
    for node in ast.walk(tree):
        if isinstance(node, BARRED):
            faults.append(("L6 or L7", node))
        if isinstance(node, ast.Constant) and isinstance(node.value, (float, complex)):
            faults.append(("L7", node))
        if isinstance(node, ast.Constant) and isinstance(node.value, str) and "%" in node.value:
            faults.append(("L27", node))
        if isinstance(node, ast.Import) and not (main and [each.name for each in node.names] == ["sys"]):
            faults.append(("L16", node))
        if isinstance(node, ast.ImportFrom) and node.level == 0:
            if node.module not in LIBRARY and node.module.split(".")[0] != "gunclocks":
                faults.append(("L2", node))
        if isinstance(node, ast.ImportFrom) and node.level != 0:
            faults.append(("L2", node))
        if name_of(node) in NOWHERE:
            faults.append(("L17", node))
        if isinstance(node, ast.Name) and hasattr(builtins, node.id):
            stored = not isinstance(node.ctx, ast.Load)
            if stored or node.id not in ALLOWED | ({"print"} if main else set()) | {"__name__"}:
                faults.append(("L8 or L15", node))
        if isinstance(node, ast.arg) and hasattr(builtins, node.arg):
            faults.append(("L15", node))
        if isinstance(node, ast.FunctionDef) and node.end_lineno - node.lineno + 1 > 40:
            faults.append(("L10", node))
    return [(rule, getattr(node, "lineno", 0)) for rule, node in faults]


class Language(unittest.TestCase):
    def test_names_of_files(self):
        self.assertTrue(files())
        for path in files():
            self.assertRegex(os.path.basename(path), r"^[a-z0-9_]+\.py$")

    def test_characters_and_sizes(self):
        for path in files():
            text = text_of(path)
            self.assertIsNone(re.search(r"[^\n -~]", text), path)
            lines = text.splitlines()
            self.assertLessEqual(len(lines), 399, path)
            self.assertLessEqual(max([len(line) for line in lines], default=0), 120, path)

    def test_syntax(self):
        for path in files():
            main = os.path.basename(path) == "__main__.py"
            self.assertEqual(faults_of(ast.parse(text_of(path)), main), [], path)
