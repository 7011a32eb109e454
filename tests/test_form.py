"""The package's files keep to the part of Python that LANGUAGE.md tells."""

import ast
import pathlib
import re
import unittest

from tests.form import attribute_findings, file_findings
from tests.form_uses import drawn_findings, is_free_file_name, use_findings

PACKAGE = pathlib.Path(__file__).resolve().parent.parent / "racecards"
FILES = sorted(PACKAGE.glob("*.py"))

WRONG_TOPS = (
    "import os", "from os import path", "from . import cards", "from racecards.cards import *", "print(1)",
    "x = [len(y) for y in ()]", "x = 1\nx = 2", "x = 1.5", "x = b'a'", "x = {}", "class A:\n    x = 1",
    "def f(*a):\n    return a", "def f(a: int):\n    return a", "def f(_):\n    return 1", "def f(len):\n    return 1",
    "def f():\n" + "    g()\n" * 40, "# " + "x" * 120, "# \u00e9", "#\t", "# type", "x = 1\n" * 401,
)
WRONG_ROWS = (
    "return 1 / 2", "a = b = 1", "assert True", "yield 1", "return x is y", "import sys", "return map", "x = range(3)",
    "return (i for i in ())", "return {1: 2 for i in ()}", "raise ValueError", "return 'a %'", "return 2 ** n",
    "return chr(1)", "return open(1)", "global x", "with g():\n        return 1",
    "try:\n        g()\n    except Exception:\n        return 1",
)
WRONG_USES = (
    "class A:\n    def go(self):\n        return A", "class A(B):\n    def go(self):\n        return 1",
    "class A(StopIteration):\n    def go(self):\n        return 1", "def f(xs=[]):\n    return xs",
    "class A:\n    def __init__(self):\n        return None", "def f(xs):\n    return g(len)",
    "def f(xs):\n    return xs.append", "def f(xs):\n    return sorted(xs, default=1)",
    "def f(xs):\n    return xs.index(value=1)", "def f(xs):\n    ys = set(xs)\n    return 1",
    "def f(xs):\n    for x in set(xs):\n        g(x)", "def f(xs):\n    for x in xs:\n        xs.append(x)",
    "def f(xs):\n    for k, x in enumerate(xs):\n        xs[k] = x", "def f(xs):\n    for x in xs:\n        xs += [x]",
    "def f(d):\n    for k in d.keys():\n        d.pop(k)", "def f():\n    return (lambda x: x, lambda x: 1)",
    "from racecards.faults import Fault\ndef f(Fault):\n    return 1", "def f():\n    return '\\x41'",
    "from racecards.faults import Fault\ndef f():\n    Fault = 1\n    return 1", "def f(x):\n    return x.f_back",
    "class A:\n    def go(self):\n        return 1\ndef f(A):\n    return 1",
)
RIGHT_USES = (
    "def f(xs):\n    return len(set(xs) | set(xs))", "def f(xs):\n    return sorted(xs, key=len, reverse=True)",
    "def f(xs):\n    ys = []\n    for k, x in enumerate(xs):\n        ys.append(x)\n    return ys",
    "class A(ValueError):\n    def go(self):\n        return 1\ndef f(x):\n    return isinstance(x, (A, int)) and A()",
)


def trees_of_all_files():
    return {path.stem: ast.parse(path.read_text("utf-8")) for path in FILES}


def calls_of(trees):
    """Which defs of the package call which, by their names."""
    calls = {}
    for tree in trees:
        for node in ast.walk(tree):
            if isinstance(node, ast.FunctionDef):
                inner = [part.func for part in ast.walk(node) if isinstance(part, ast.Call)]
                calls[node.name] = {func.attr if isinstance(func, ast.Attribute) else func.id for func in inner}
    return calls


class Form(unittest.TestCase):
    def test_files_of_the_package(self):
        names = [path.name for path in PACKAGE.iterdir() if path.name != "__pycache__"]
        self.assertIn("__init__.py", names)
        self.assertIn("cards.py", names)
        for name in names:
            self.assertTrue(name == "__init__.py" or re.fullmatch(r"[a-z][a-z0-9_]*\.py", name), name)
            self.assertTrue(is_free_file_name(name.removesuffix(".py")), name)
        for name in ("test", "tests", "test_a", "site", "len", "range", "property", "enum"):
            self.assertFalse(is_free_file_name(name), name)

    def test_each_file(self):
        for path in FILES:
            self.assertEqual(file_findings(path.read_text("utf-8"), "racecards"), [], path.name)

    def test_methods_and_values(self):
        self.assertEqual(attribute_findings(list(trees_of_all_files().values())), [])

    def test_how_names_and_loops_are_used(self):
        trees = list(trees_of_all_files().values())
        for path in FILES:
            self.assertEqual(use_findings(path.read_text("utf-8"), trees), [], path.name)

    def test_each_name_is_drawn_from_where_it_is_defined(self):
        trees = trees_of_all_files()
        self.assertEqual(drawn_findings(trees, "racecards"), [])
        wrong = ("from racecards.writing import NL", "from racecards.nowhere import x", "from racecards import cards")
        for source in wrong:
            self.assertNotEqual(drawn_findings({**trees, "other": ast.parse(source)}, "racecards"), [], source)

    def test_no_two_files_draw_from_one_another(self):
        drawn = {path.stem: set(re.findall(r"^from racecards\.(\w+) import", path.read_text(), re.M)) for path in FILES}
        self.assertEqual(drawn["__init__"], set())
        while drawn:
            free = [name for name in drawn if not drawn[name] & set(drawn)]
            self.assertTrue(free, drawn)
            drawn = {name: drawn[name] for name in drawn if name not in free}

    def test_no_def_calls_itself_in_whatever_many_steps(self):
        calls = calls_of(trees_of_all_files().values())
        calls.pop("__init__")
        while calls:
            free = [name for name in calls if not calls[name] & set(calls)]
            self.assertTrue(free, calls)
            calls = {name: calls[name] for name in calls if name not in free}

    def test_what_is_outside_is_found(self):
        for source in list(WRONG_TOPS) + [f"def f():\n    {rows}" for rows in WRONG_ROWS]:
            self.assertNotEqual(file_findings(source + "\n", "racecards"), [], source)
        self.assertEqual(file_findings("def f():\n    return 1\n", "racecards"), [])

    def test_uses_that_are_outside_are_found(self):
        for source in WRONG_USES:
            self.assertNotEqual(use_findings(source + "\n", [ast.parse(source)]), [], source)
        for source in RIGHT_USES:
            self.assertEqual(use_findings(source + "\n", [ast.parse(source)]), [], source)


if __name__ == "__main__":
    unittest.main()
