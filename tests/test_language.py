"""Points 0.3 and 0.4, and the rules of the language as far as a script can see them."""

import ast
import builtins
import pathlib
import re
import unittest

import language

PACKAGE = pathlib.Path(__file__).resolve().parent.parent / "leastreader"

# The modules in the order of their headings in the interface, by the group to which they belong [0.3].
GROUPS = (
    ("errors", "letters", "tokens", "recents", "telling"),
    ("placemaps", "blocks", "likeness", "nearest", "fewest"),
    ("signs", "words", "tables", "bitrows"),
    ("formats", "controls", "reach", "classes", "covers", "heard"),
    ("states", "readers", "streams"),
    ("leasts", "patterns", "alikes", "noticing", "nexts", "heads", "rests"),
    ("machines", "leastmachines", "rightness", "counts"),
    ("lots", "joins", "sure", "turned"),
    ("soon", "apart", "forgets", "texts"),
    ("pieces", "desks", "trials", "listings"),
)


def package_files():
    return sorted(path for path in PACKAGE.iterdir() if path.name != "__pycache__")


def parsed():
    """Triples (name of the module, text, tree)."""
    return [(path.stem, text, ast.parse(text)) for path in package_files() for text in [path.read_text("utf-8")]]


def imports(tree):
    """Pairs (module, name) of what a file imports from the package."""
    for node in ast.walk(tree):
        if isinstance(node, ast.ImportFrom) and node.module.startswith("leastreader."):
            yield from ((node.module.partition(".")[2], alias.name) for alias in node.names)


class Files(unittest.TestCase):
    def test_the_package_holds_nothing_but_python_files(self):
        self.assertTrue((PACKAGE / "__init__.py").is_file())
        for path in package_files():
            self.assertTrue(path.is_file() and re.fullmatch("[a-z_][a-z0-9_]*[.]py", path.name), path.name)
            if path.stem != "__init__":
                self.assertFalse(hasattr(builtins, path.stem) or path.stem.startswith("test"), path.name)

    def test_every_file_is_a_module_of_the_interface(self):
        known = [name for group in GROUPS for name in group]
        for path in package_files():
            self.assertIn(path.stem, known + ["__init__"])


class Imports(unittest.TestCase):
    def test_point_0_3_modules_draw_on_their_group_and_on_earlier_headings(self):
        order = [name for group in GROUPS for name in group]
        for module, _, tree in parsed():
            group = [group for group in GROUPS if module in group]
            for source, _ in imports(tree):
                earlier = order.index(source) < order.index(module)
                self.assertTrue(earlier or source in group[0], f"{module} draws on {source}")

    def test_no_two_files_import_from_each_other(self):
        below = {module: {source for source, _ in imports(tree)} for module, _, tree in parsed()}
        while below:
            free = [module for module in below if not below[module] & set(below)]
            self.assertTrue(free, f"in a ring: {sorted(below)}")
            for module in free:
                del below[module]

    def test_names_are_imported_from_the_file_that_defines_them(self):
        defined = {}
        for module, _, tree in parsed():
            names = [node.name for node in tree.body if isinstance(node, (ast.FunctionDef, ast.ClassDef))]
            names += [node.targets[0].id for node in tree.body if isinstance(node, ast.Assign)]
            defined[module] = names
        for module, _, tree in parsed():
            for source, name in imports(tree):
                self.assertIn(name, defined[source], f"{module} imports {name} from {source}")

    def test_what_is_imported_is_used(self):
        for module, _, tree in parsed():
            used = {node.id for node in ast.walk(tree) if isinstance(node, ast.Name)}
            for source, name in imports(tree):
                self.assertIn(name, used, f"{module} imports {name} from {source}")


class Language(unittest.TestCase):
    def test_point_0_4_and_the_rules_of_the_language(self):
        found = []
        files = parsed()
        own = {node.name for _, _, tree in files for node in language.functions(tree)}
        for module, text, tree in files:
            for check in language.CHECKS:
                found += [f"{module}.py:{line}: {wrong}" for line, wrong in check(text, tree)]
            found += [f"{module}.py:{line}: {wrong}" for line, wrong in language.check_calls(text, tree, own)]
        self.assertEqual(found, [])

    def test_what_is_read_as_an_attribute_is_assigned_somewhere(self):
        stored, read = set(), set()
        for _, _, tree in parsed():
            for node in ast.walk(tree):
                if isinstance(node, ast.Attribute):
                    (stored if isinstance(node.ctx, ast.Store) else read).add(node.attr)
            stored |= {node.name for node in language.functions(tree)}
        self.assertEqual(sorted(read - stored - language.METHODS - {"__init__", "setter"}), [])

    def test_no_property_has_the_name_of_an_attribute(self):
        stored, properties = set(), set()
        for _, _, tree in parsed():
            for node in ast.walk(tree):
                if isinstance(node, ast.Attribute) and isinstance(node.ctx, ast.Store):
                    stored.add(node.attr)
                if isinstance(node, ast.FunctionDef):
                    marks = [mark.id for mark in node.decorator_list if isinstance(mark, ast.Name)]
                    properties |= {node.name} if "property" in marks else set()
        self.assertEqual(sorted(stored & properties), [])


class TheChecks(unittest.TestCase):
    """The checks see what they are made for."""

    def test_faults_are_found(self):
        for fault in (
                "import os", "from os import path", "from leastreader.letters import *", "from .letters import HOLE",
                "x = 1\nx = 2", "x = [[1]]", "x = print", "print(1)", "x = 1.5", "x = '\\u00e9'[0]", "def len(x):\n    pass",
                "def f(x: int):\n    return x", "def f(id):\n    return id", "def f(x):\n    return x / 2",
                "def f(x):\n    return any(y for y in x)", "def f(x):\n    y = yield x",
                "class C:\n    def f(self):\n        yield self", "def f(x):\n    with x:\n        yield x",
                "def f(x):\n    yield x\n    return 1", "def f(x):\n    yield x\ndef g(x):\n    return f(x)",
                "def f(x):\n    yield from x", "def f(x):\n    return 2 ** x",
                "def f(x):\n    return x is f", "def f(x):\n    return x.hex()", "def f(x):\n    return open(x)",
                "def f(x):\n    return type(x)", "def f(x):\n    return set(x)", "def f(x):\n    raise x",
                "def f(x):\n    return 'a %d' % x", "class C:\n    x = 1\n    def __hash__(self):\n        return 1",
                "def f(x):\n" + "    x = 1\n" * 40, "x = 1\n" + "# a\n" * 400, "x = 1  #" + "a" * 120, "x = 1\t",
                "from heapq import heappop\ndef f(x):\n    return heappop", "from heapq import heappop\nclass C:\n    @property\n"
                "    def f(self):\n        return heappop(self.x)", "def f(x):\n    with x[0]:\n        pass",
                "class C:\n    def __exit__(self, kind, value, trace):\n        self.x.append(1)",
                "def f(x):\n    for y in x:\n        x.append(y)", "def f(x):\n    for k, y in enumerate(x):\n        x[k] = y",
                "from heapq import heappush\ndef f(x):\n    for y in x:\n        heappush(x, y)",
                "def f(x):\n    for k in x.values():\n        del x[k]", "def f(x):\n    return [x.pop() for y in x]",
                "def f(x=[]):\n    return x", "class C:\n    pass", "def f(x):\n    global y\n    y = x"):
            with self.subTest(fault=fault[:60]):
                text = fault + "\n"
                tree = ast.parse(text)
                found = [wrong for check in language.CHECKS for wrong in check(text, tree)]
                found += list(language.check_calls(text, tree, set()))
                self.assertNotEqual(found, [])
