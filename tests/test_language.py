"""The files of the package: what the interface lists, and the rules of the language that a test can see."""

import ast
import builtins
import inspect
import os
import unittest
from importlib import import_module

import bigcorners

FOLDER = os.path.dirname(os.path.abspath(bigcorners.__file__))
INTERFACE = {
    "charts": {
        "Chart": "places arrows rounds outer prices", "rims": "chart", "rim_of": "chart angle", "sides": "chart arrow",
        "word_at": "chart angle", "asks": "chart", "tips": "chart", "tangled": "chart",
    },
    "judging": {"is_picture": "chart thing", "cost": "chart picture", "big": "chart picture"},
    "pictures": {"picture": "chart", "drawn": "chart dealing"},
    "prices": {
        "is_table": "chart thing", "is_dam": "chart thing", "worth": "chart table", "price": "chart", "table": "chart",
        "dam": "chart", "turnings": "chart", "fates": "chart", "outers": "chart",
    },
    "dealings": {"is_dealing": "chart thing", "count_dealings": "chart", "dealing": "chart number"},
}
LIBRARY = {
    "heapq": "heappush heappop heapify heapreplace heappushpop", "math": "gcd lcm isqrt comb perm factorial",
    "itertools": "product combinations permutations chain accumulate pairwise islice zip_longest",
    "collections": "defaultdict deque",
}
BARRED = (
    ast.AsyncFunctionDef, ast.AsyncFor, ast.AsyncWith, ast.Await, ast.Div, ast.Import, ast.Global, ast.MatMult,
)
FREE_FORMS = ("list", "tuple", "dict")
UNUSED = "register mro elements open input law version_info with_traceback add_note eval exec compile vars globals"


def sources():
    """The name, the text and the tree of each file of the package."""
    found = []
    for name in sorted(os.listdir(FOLDER)):
        if name != "__pycache__":
            with open(os.path.join(FOLDER, name), encoding="utf-8") as file:
                text = file.read()
            found.append((name, text, ast.parse(text)))
    return found


def bound_names(tree):
    """All names of variables, parameters, functions, classes and imports."""
    for node in ast.walk(tree):
        if isinstance(node, ast.Name) and not isinstance(node.ctx, ast.Load):
            yield node.id
        elif isinstance(node, ast.arg):
            yield node.arg
        elif isinstance(node, (ast.FunctionDef, ast.ClassDef)):
            yield node.name
        elif isinstance(node, ast.alias):
            yield node.asname or node.name


class LanguageTest(unittest.TestCase):
    def test_files(self):
        for name, text, _ in sources():
            self.assertRegex(name, r"^[a-z_][a-z0-9_]*\.py$")
            self.assertLessEqual(len(text.splitlines()), 399, name)
            self.assertTrue(all(sign == "\n" or " " <= sign <= "~" for sign in text), name)
            self.assertTrue(all(len(line) <= 120 for line in text.splitlines()), name)

    def test_functions_are_small(self):
        for name, _, tree in sources():
            for node in ast.walk(tree):
                if isinstance(node, ast.FunctionDef):
                    self.assertLessEqual(node.end_lineno - node.lineno + 1, 40, (name, node.name))

    def test_imports(self):
        modules = {name[:-3] for name, _, _ in sources()}
        for name, _, tree in sources():
            for node in ast.walk(tree):
                if isinstance(node, ast.ImportFrom):
                    self.assertIn(node, tree.body)
                    self.assertEqual(node.level, 0)
                    if node.module in LIBRARY:
                        self.assertLessEqual({one.name for one in node.names}, set(LIBRARY[node.module].split()))
                    else:
                        package, _, module = node.module.partition(".")
                        self.assertEqual(package, "bigcorners", name)
                        self.assertIn(module, modules)
                        for one in node.names:
                            value = getattr(import_module(node.module), one.name)
                            self.assertEqual(getattr(value, "__module__", node.module), node.module)

    def test_no_barred_statements_and_values(self):
        for name, _, tree in sources():
            for node in ast.walk(tree):
                self.assertNotIsInstance(node, BARRED, name)
                if isinstance(node, ast.Constant):
                    self.assertNotIsInstance(node.value, (float, complex), name)
                if isinstance(node, (ast.FunctionDef, ast.ClassDef)):
                    self.assertEqual(node.decorator_list, [], name)

    def test_generator_expressions_only_where_they_may_stand(self):
        # A class of the package has an __eq__, so any, all, sum and the like take lists.
        for name, _, tree in sources():
            allowed = set()
            for node in ast.walk(tree):
                if isinstance(node, ast.Call) and isinstance(node.func, ast.Name) and node.func.id in FREE_FORMS:
                    allowed.update(id(one) for one in node.args)
            for node in ast.walk(tree):
                if isinstance(node, ast.GeneratorExp):
                    self.assertIn(id(node), allowed, (name, node.lineno))

    def test_no_name_is_that_of_a_builtin(self):
        barred = set(dir(builtins)) | set(UNUSED.split())
        for name, _, tree in sources():
            self.assertEqual(sorted(barred & set(bound_names(tree))), [], name)

    def test_no_local_name_is_that_of_a_class_or_an_import(self):
        for name, _, tree in sources():
            taken = {one.name for node in tree.body if isinstance(node, ast.ImportFrom) for one in node.names}
            taken |= {node.name for node in tree.body if isinstance(node, ast.ClassDef)}
            for node in ast.walk(tree):
                if isinstance(node, ast.FunctionDef):
                    self.assertEqual(sorted(taken & (set(bound_names(node)) - {node.name})), [], (name, node.name))

    def test_methods_and_attributes_have_names_of_their_own(self):
        for name, _, tree in sources():
            for node in ast.walk(tree):
                if isinstance(node, ast.ClassDef):
                    methods = {one.name for one in node.body if isinstance(one, ast.FunctionDef)}
                    attributes = {
                        one.attr for one in ast.walk(node) if isinstance(one, ast.Attribute)
                        and not isinstance(one.ctx, ast.Load) and ast.unparse(one.value) == "self"
                    }
                    self.assertEqual(sorted(methods & attributes), [], (name, node.name))

    def test_is_beside_none_and_flags_alone(self):
        for name, _, tree in sources():
            for node in ast.walk(tree):
                if isinstance(node, ast.Compare) and isinstance(node.ops[0], (ast.Is, ast.IsNot)):
                    constant = isinstance(node.comparators[0], ast.Constant)
                    kind = ast.unparse(node.left).startswith("type(")
                    self.assertTrue(constant or kind, (name, node.lineno))

    def test_interface(self):
        for module, names in INTERFACE.items():
            for name, parameters in names.items():
                value = getattr(import_module("bigcorners." + module), name)
                self.assertEqual(value.__module__, "bigcorners." + module)
                self.assertEqual(list(inspect.signature(value).parameters), parameters.split())
