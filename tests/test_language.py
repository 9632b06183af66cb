"""The package keeps to the small part of Python that LANGUAGE.md tells."""

import ast
import re
import unittest
from pathlib import Path

from language import DUNDERS, METHODS, PYTHON_NAMES, faults

PACKAGE = Path(__file__).resolve().parent.parent / "glazework"

# What Python's own values have as a method or a value is not free for the package's classes.
NAMES_OF_VALUES = set(dir(str) + dir(int) + dir(list) + dir(dict) + dir(set) + dir(bytes) + dir(tuple) + ["args"])
VALUES_ALLOWED = set("count index title find get join lower upper split strip copy add".split())

SAMPLES = (
    ("import glazework.errors\n", "L6"),
    ("from fractions import Fraction\n", "L2"),
    ("from glazework.errors import *\n", "L2"),
    ("def f(x):\n    from glazework.errors import Held\n    return Held\n", "L2"),
    ("LIMIT = len((1, 2))\n", "L3"),
    ("KEPT = [[1], [2]]\n", "L15"),
    ("ONE = 1\nONE = 2\n", "L15"),
    ("def f(*xs):\n    return xs\n", "L4"),
    ("@f\ndef g():\n    return 1\n", "L4"),
    ("class A:\n    size = 1\n", "L5"),
    ("def f(x):\n    assert x\n", "L6"),
    ("def f(x):\n    a = b = x\n    return a + b\n", "L6"),
    ("def f(x):\n    for y in x:\n        pass\n    else:\n        return 1\n", "L6"),
    ("def f(x):\n    return x / 2\n", "L7"),
    ("def f(x):\n    return 0.5\n", "L7"),
    ("def f(x):\n    return any(y for y in x)\n", "L7"),
    ("def f(x):\n    return [a for b in x for a in b]\n", "L7"),
    ("def f(x):\n    return hash(x)\n", "L8"),
    ("def f(x):\n" + "    x = x + 1\n" * 40 + "    return x\n", "L10"),
    ("# " + "a" * 120 + "\n", "L10"),
    ("def f(_):\n    return 1\n", "L12"),
    ("# caf\u00e9\n", "L14"),
    ("def f(next):\n    return next\n", "L15"),
    ("# a type of its own\n", "L17"),
    ("def f(x):\n    return x.register\n", "L17"),
    ("def f(x):\n    try:\n        return x[0]\n    except TypeError:\n        return 1\n", "L19"),
    ("def f(x):\n    try:\n        return x[0]\n    except:\n        return 1\n", "L19"),
    ("def f(x):\n    raise ValueError\n", "L19"),
    ("def f(x, y):\n    return x is y\n", "L20"),
    ("def f(x):\n    g = len\n    return g(x)\n", "L22"),
    ("def f(x):\n    y = zip(x, x)\n    return list(y)\n", "L23"),
    ("def f(n):\n    return 2 ** n\n", "L27"),
    ("MARK = 'a\\x41'\n", "L27"),
)


def files():
    return sorted(path for path in PACKAGE.rglob("*") if "__pycache__" not in path.parts)


def drawn_from(path):
    tree = ast.parse(path.read_text(encoding="utf-8"))
    return [node for node in tree.body if isinstance(node, ast.ImportFrom)]


def module_path(module):
    return PACKAGE.parent.joinpath(*module.split(".")).with_suffix(".py")


def names_defined(path):
    names = set()
    for node in ast.parse(path.read_text(encoding="utf-8")).body:
        if isinstance(node, (ast.FunctionDef, ast.ClassDef)):
            names.add(node.name)
        if isinstance(node, ast.Assign):
            names.add(node.targets[0].id)
    return names


def methods_and_values(trees):
    """The names of all methods, and those of all values that are given to objects, of the whole package."""
    methods, values = set(), set()
    for tree in trees:
        for node in ast.walk(tree):
            if isinstance(node, ast.ClassDef):
                methods.update(part.name for part in node.body if isinstance(part, ast.FunctionDef))
            if isinstance(node, ast.Attribute) and isinstance(node.ctx, ast.Store):
                values.add(node.attr)
    return methods - set(DUNDERS), values


def class_faults(trees):
    """The names of methods and values that L18 or L26 does not leave free."""
    methods, values = methods_and_values(trees)
    told = methods & values
    told |= methods & NAMES_OF_VALUES - METHODS - {"add", "discard"}
    told |= values & NAMES_OF_VALUES - VALUES_ALLOWED
    return told


class Language(unittest.TestCase):
    def test_every_file_keeps_to_the_rules(self):
        for path in files():
            with self.subTest(path=path.name):
                self.assertEqual(faults(path.read_text(encoding="utf-8")), [])

    def test_the_look_finds_what_leaves_the_rules(self):
        for source, rule in SAMPLES:
            with self.subTest(source=source):
                self.assertIn(rule, [found for row, found in faults(source)])

    def test_the_folder_holds_plain_files_alone(self):
        names = [path.name for path in files()]
        self.assertIn("__init__.py", names)
        for name in names:
            self.assertTrue(re.fullmatch(r"__init__\.py|[a-z][a-z0-9_]*\.py", name), name)
            stem = name[:-3]
            self.assertNotIn(stem, PYTHON_NAMES)
            self.assertFalse(re.fullmatch(r"tests?|testing|test_.*|site|conftest|(site|user)customize", stem), name)

    def test_names_are_drawn_from_the_file_that_defines_them(self):
        for path in files():
            for row in drawn_from(path):
                for alias in row.names:
                    self.assertIn(alias.name, names_defined(module_path(row.module)), path.name)

    def test_no_two_files_draw_from_one_another(self):
        draws = {path: {module_path(row.module) for row in drawn_from(path)} for path in files()}
        while draws:
            free = [path for path in draws if not draws[path] & set(draws)]
            self.assertTrue(free, sorted(path.name for path in draws))
            for path in free:
                draws.pop(path)

    def test_methods_and_values_have_free_names(self):
        self.assertEqual(class_faults([ast.parse(path.read_text(encoding="utf-8")) for path in files()]), set())

    def test_the_look_finds_names_that_are_not_free(self):
        for body, name in (
            ("def now(self):\n        self.now = 1\n", "now"),
            ("def put(self):\n        self.items = 1\n", "items"),
            ("def title(self):\n        return 1\n", "title"),
            ("def put(self):\n        self.args = 1\n", "args"),
        ):
            self.assertEqual(class_faults([ast.parse("class A:\n    " + body)]), {name})


if __name__ == "__main__":
    unittest.main()
