"""The files of the package: what the interface lists, and the rules of the language that a test can see."""

import ast
import builtins
import inspect
import os
import unittest
from importlib import import_module

import bigcorners

FOLDER = os.path.dirname(os.path.abspath(bigcorners.__file__))
INTERFACE = {
    "charts": {
        "Chart": "places arrows rounds outer prices", "rims": "chart", "rim_of": "chart angle", "sides": "chart arrow",
        "word_at": "chart angle", "asks": "chart", "tips": "chart", "tangled": "chart",
    },
    "judging": {"is_picture": "chart thing", "cost": "chart picture", "big": "chart picture"},
    "pictures": {"picture": "chart", "drawn": "chart dealing"},
    "prices": {
        "is_table": "chart thing", "is_dam": "chart thing", "worth": "chart table", "price": "chart", "table": "chart",
        "dam": "chart", "turnings": "chart", "fates": "chart", "outers": "chart",
    },
    "dealings": {"is_dealing": "chart thing", "count_dealings": "chart", "dealing": "chart number"},
    "sketches": {"sketch": "chart picture", "read_sketch": "text"},
    "books": {"Book": "cells routines", "flow": "book routine", "deed": "book routine place"},
    "runners": {"ran": "book begins most", "Runner": "book begins"},
    "benches": {"Bench": "chart"},
    "texts": {"chart_text": "chart", "read_chart": "text"},
    "sources": {"source": "book", "translated": "text"},
    "desks": {"Desk": ""},
}
METHODS = {
    "runners.Runner": {
        "word": "", "where": "", "contents": "", "said": "", "step": "", "back": "", "steps": "", "trail": "",
        "set_break": "routine place", "clear_break": "routine place", "breaks": "", "go": "most", "copy": "",
    },
    "benches.Bench": {
        "chart": "", "put": "angle other price", "strike": "arrow", "turn": "arrow", "split": "arrow",
        "ask": "arrow price", "outside": "angle", "undo": "", "redo": "", "deeds": "", "copy": "", "trying": "action",
    },
    "desks.Desk": {"tell": "line", "undoable": ""},
}
LIBRARY = {
    "heapq": "heappush heappop heapify heapreplace heappushpop", "math": "gcd lcm isqrt comb perm factorial",
    "itertools": "product combinations permutations chain accumulate pairwise islice zip_longest",
    "collections": "defaultdict deque",
}
BARRED = (
    ast.AsyncFunctionDef, ast.AsyncFor, ast.AsyncWith, ast.Await, ast.Div, ast.Import, ast.Global, ast.MatMult,
)
FREE_FORMS = ("list", "tuple", "dict")
BUILTINS = (
    "len range enumerate zip min max sum abs sorted reversed int str bool bytes list tuple dict set frozenset "
    "isinstance ord repr any all divmod pow type"
)
VALUE_METHODS = (
    "append clear copy count endswith extend find get index insert isalnum isalpha isdigit islower isspace isupper "
    "items join keys ljust lower lstrip partition pop remove replace reverse rfind rjust rpartition rsplit rstrip "
    "setdefault split splitlines startswith strip update upper values zfill bit_length title capitalize swapcase "
    "casefold center expandtabs removeprefix removesuffix rindex isascii isdecimal isnumeric istitle isidentifier "
    "isprintable"
)
KEYWORDS = {"enumerate": {"start"}, "sum": {"start"}, "sorted": {"key", "reverse"}, "min": {"key", "default"},
            "max": {"key", "default"}, "zip": {"strict"}}
BARRED_WORDS = (
    "typing typing_extensions enum Enum IntEnum StrEnum Flag IntFlag Generic Protocol ABC ABCMeta namedtuple "
    "NamedTuple TypedDict TYPE_CHECKING abstractmethod dataclass overload contextmanager chr"
)
UNUSED = "register mro elements open input law version_info with_traceback add_note eval exec compile vars globals"


def sources():
    """The name, the text and the tree of each file of the package."""
    found = []
    for name in sorted(os.listdir(FOLDER)):
        if name != "__pycache__":
            with open(os.path.join(FOLDER, name), encoding="utf-8") as file:
                text = file.read()
            found.append((name, text, ast.parse(text)))
    return found


def bound_names(tree):
    """All names of variables, parameters, functions, classes and imports."""
    for node in ast.walk(tree):
        if isinstance(node, ast.Name) and not isinstance(node.ctx, ast.Load):
            yield node.id
        elif isinstance(node, ast.arg):
            yield node.arg
        elif isinstance(node, (ast.FunctionDef, ast.ClassDef)):
            yield node.name
        elif isinstance(node, ast.alias):
            yield node.asname or node.name


class LanguageTest(unittest.TestCase):
    def test_files(self):
        for name, text, _ in sources():
            self.assertRegex(name, r"^[a-z_][a-z0-9_]*\.py$")
            self.assertLessEqual(len(text.splitlines()), 399, name)
            self.assertTrue(all(sign == "\n" or " " <= sign <= "~" for sign in text), name)
            self.assertTrue(all(len(line) <= 120 for line in text.splitlines()), name)

    def test_functions_are_small(self):
        for name, _, tree in sources():
            for node in ast.walk(tree):
                if isinstance(node, ast.FunctionDef):
                    self.assertLessEqual(node.end_lineno - node.lineno + 1, 40, (name, node.name))

    def test_imports(self):
        modules = {name[:-3] for name, _, _ in sources()}
        for name, _, tree in sources():
            for node in ast.walk(tree):
                if isinstance(node, ast.ImportFrom):
                    self.assertIn(node, tree.body)
                    self.assertEqual(node.level, 0)
                    if node.module in LIBRARY:
                        self.assertLessEqual({one.name for one in node.names}, set(LIBRARY[node.module].split()))
                    else:
                        package, _, module = node.module.partition(".")
                        self.assertEqual(package, "bigcorners", name)
                        self.assertIn(module, modules)
                        for one in node.names:
                            value = getattr(import_module(node.module), one.name)
                            self.assertEqual(getattr(value, "__module__", node.module), node.module)

    def test_no_barred_statements_and_values(self):
        for name, _, tree in sources():
            for node in ast.walk(tree):
                self.assertNotIsInstance(node, BARRED, name)
                if isinstance(node, ast.Constant):
                    self.assertNotIsInstance(node.value, (float, complex), name)
                if isinstance(node, (ast.FunctionDef, ast.ClassDef)):
                    self.assertEqual(node.decorator_list, [], name)

    def test_generator_expressions_only_where_they_may_stand(self):
        # A class of the package has an __eq__, so any, all, sum and the like take lists.
        for name, _, tree in sources():
            allowed = set()
            for node in ast.walk(tree):
                if isinstance(node, ast.Call) and isinstance(node.func, ast.Name) and node.func.id in FREE_FORMS:
                    allowed.update(id(one) for one in node.args)
            for node in ast.walk(tree):
                if isinstance(node, ast.GeneratorExp):
                    self.assertIn(id(node), allowed, (name, node.lineno))

    def test_no_name_is_that_of_a_builtin(self):
        barred = set(dir(builtins)) | set(UNUSED.split())
        for name, _, tree in sources():
            self.assertEqual(sorted(barred & set(bound_names(tree))), [], name)

    def test_no_local_name_is_that_of_a_class_or_an_import(self):
        for name, _, tree in sources():
            taken = {one.name for node in tree.body if isinstance(node, ast.ImportFrom) for one in node.names}
            taken |= {node.name for node in tree.body if isinstance(node, ast.ClassDef)}
            for node in ast.walk(tree):
                if isinstance(node, ast.FunctionDef):
                    self.assertEqual(sorted(taken & (set(bound_names(node)) - {node.name})), [], (name, node.name))

    def test_methods_and_attributes_have_names_of_their_own(self):
        for name, _, tree in sources():
            for node in ast.walk(tree):
                if isinstance(node, ast.ClassDef):
                    methods = {one.name for one in node.body if isinstance(one, ast.FunctionDef)}
                    attributes = {
                        one.attr for one in ast.walk(node) if isinstance(one, ast.Attribute)
                        and not isinstance(one.ctx, ast.Load) and ast.unparse(one.value) == "self"
                    }
                    self.assertEqual(sorted(methods & attributes), [], (name, node.name))

    def test_is_beside_none_and_flags_alone(self):
        for name, _, tree in sources():
            for node in ast.walk(tree):
                if isinstance(node, ast.Compare) and isinstance(node.ops[0], (ast.Is, ast.IsNot)):
                    constant = isinstance(node.comparators[0], ast.Constant)
                    kind = ast.unparse(node.left).startswith("type(")
                    self.assertTrue(constant or kind, (name, node.lineno))

    def test_interface(self):
        for module, names in INTERFACE.items():
            for name, parameters in names.items():
                value = getattr(import_module("bigcorners." + module), name)
                self.assertEqual(value.__module__, "bigcorners." + module)
                self.assertEqual(list(inspect.signature(value).parameters), parameters.split())

    def test_methods_stand_in_the_class_itself(self):
        for path, methods in METHODS.items():
            module, name = path.split(".")
            owner = getattr(import_module("bigcorners." + module), name)
            for method, parameters in methods.items():
                self.assertIn(method, vars(owner), path)
                self.assertEqual(list(inspect.signature(vars(owner)[method]).parameters), ["self"] + parameters.split())

    def own_methods(self):
        """The names of all methods of the package."""
        return {
            one.name for _, _, tree in sources() for node in ast.walk(tree) if isinstance(node, ast.ClassDef)
            for one in node.body if isinstance(one, ast.FunctionDef)
        }

    def assigned_attributes(self):
        """The names of all attributes that the package assigns."""
        return {
            node.attr for _, _, tree in sources() for node in ast.walk(tree)
            if isinstance(node, ast.Attribute) and isinstance(node.ctx, ast.Store)
        }

    def test_builtins_that_are_called(self):
        for name, _, tree in sources():
            for node in ast.walk(tree):
                if isinstance(node, ast.Call) and isinstance(node.func, ast.Name) and hasattr(builtins, node.func.id):
                    self.assertIn(node.func.id, BUILTINS.split() + ["ValueError"], (name, node.lineno))
                    keywords = {one.arg for one in node.keywords}
                    self.assertLessEqual(keywords, KEYWORDS.get(node.func.id, set()), (name, node.lineno))

    def test_methods_that_are_called(self):
        methods = self.own_methods() | set(VALUE_METHODS.split())
        for name, _, tree in sources():
            for node in ast.walk(tree):
                if isinstance(node, ast.Call) and isinstance(node.func, ast.Attribute):
                    self.assertIn(node.func.attr, methods, (name, node.lineno))
                    self.assertEqual(node.keywords, [], (name, node.lineno))

    def test_attributes_that_are_read_are_assigned(self):
        methods, attributes = self.own_methods(), self.assigned_attributes()
        for name, _, tree in sources():
            called = {id(node.func) for node in ast.walk(tree) if isinstance(node, ast.Call)}
            for node in ast.walk(tree):
                if isinstance(node, ast.Attribute) and id(node) not in called:
                    self.assertIn(node.attr, attributes, (name, node.lineno))
        # More than the rules ask for: no name means a method here and an attribute there.
        self.assertEqual(sorted(methods & attributes), [])

    def test_words_and_strings(self):
        for name, _, tree in sources():
            documents = set()
            for node in ast.walk(tree):
                if isinstance(node, (ast.Module, ast.ClassDef, ast.FunctionDef)) and ast.get_docstring(node):
                    documents.add(id(node.body[0].value))
            for node in ast.walk(tree):
                if isinstance(node, ast.Constant) and isinstance(node.value, str) and id(node) not in documents:
                    self.assertNotIn("%", node.value, (name, node.lineno))
                    for word in BARRED_WORDS.split() + ["type"]:
                        self.assertNotIn(word, node.value.split(), (name, node.lineno))
                if isinstance(node, (ast.Name, ast.Attribute)):
                    word = node.id if isinstance(node, ast.Name) else node.attr
                    self.assertNotIn(word, BARRED_WORDS.split(), (name, node.lineno))
                    self.assertFalse(word.startswith("__"), (name, node.lineno))

    def test_errors_that_are_caught(self):
        own = {
            node.name for _, _, tree in sources() for node in ast.walk(tree)
            if isinstance(node, ast.ClassDef) and node.bases
        }
        for name, _, tree in sources():
            for node in ast.walk(tree):
                if isinstance(node, ast.ExceptHandler):
                    kinds = node.type.elts if isinstance(node.type, ast.Tuple) else [node.type]
                    for kind in kinds:
                        self.assertIn(kind.id, own, (name, node.lineno))
                if isinstance(node, ast.Try):
                    for statement in node.finalbody:
                        self.assertIsInstance(statement, ast.Assign, (name, node.lineno))
                        for part in ast.walk(statement):
                            simple = (ast.Assign, ast.Tuple, ast.Name, ast.Attribute, ast.expr_context)
                            self.assertIsInstance(part, simple, (name, node.lineno))

    def test_sets_are_only_sorted_or_measured(self):
        for name, _, tree in sources():
            allowed = set()
            for node in ast.walk(tree):
                if isinstance(node, ast.Call) and isinstance(node.func, ast.Name) and node.func.id in ("sorted", "len"):
                    allowed.update(id(one) for one in node.args)
            for node in ast.walk(tree):
                made = isinstance(node, ast.Call) and isinstance(node.func, ast.Name) and node.func.id == "set"
                if made or isinstance(node, (ast.Set, ast.SetComp)):
                    self.assertIn(id(node), allowed, (name, node.lineno))

    def test_no_two_files_import_from_each_other(self):
        leads = {
            name[:-3]: {node.module.partition(".")[2] for node in ast.walk(tree) if isinstance(node, ast.ImportFrom)}
            for name, _, tree in sources()
        }
        done = set()
        while len(done) < len(leads):
            ready = [name for name in leads if name not in done and leads[name] <= done]
            self.assertNotEqual(ready, [], sorted(set(leads) - done))
            done.update(ready)
