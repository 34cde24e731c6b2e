"""The interface's names and arguments, and what can be seen of the language's rules from the files alone."""

import ast
import doctest
import importlib
import inspect
import pathlib
import unittest

PACKAGE = pathlib.Path(__file__).resolve().parent.parent / "fewtests"

LIBRARY = ("__future__", "collections", "heapq", "itertools", "math")

INTERFACE = {
    "fewtests.writers": {
        "require_writer": ["value"],
        "is_small": ["writer"],
        "joined": ["recipes"],
    },
    "fewtests.runs": {
        "behind": ["writer", "word"],
        "text_for": ["writer", "word"],
        "words_in_order": ["kinds", "many"],
        "differ": ["first", "second", "word"],
    },
    "fewtests.shadows": {
        "number_of": ["text"],
        "size_of": ["text"],
        "text_of": ["number"],
        "shadow": ["situation"],
        "pair_shadow": ["first", "second", "word"],
    },
    "fewtests.sums": {
        "is_sum": ["rows", "row"],
        "is_fine_sum": ["rows", "row"],
        "factors": ["rows", "row"],
        "fine_factors": ["rows", "row"],
        "apart": ["rows", "row"],
        "fine_apart": ["rows", "row"],
        "basis": ["rows"],
        "dimension": ["rows"],
    },
    "fewtests.suites": {
        "is_closed": ["first", "second", "tests"],
        "is_closed_within": ["first", "second", "tests"],
        "is_fine": ["writer", "word", "tests"],
        "closed_tests": ["first", "second"],
        "fewest_tests": ["first", "second"],
        "uncovered": ["first", "second", "words"],
        "lacking": ["first", "second", "words"],
    },
    "fewtests.parting": {
        "first_difference": ["first", "second"],
        "alike": ["first", "second"],
        "within": ["first", "second"],
        "first_outside": ["first", "second"],
    },
    "fewtests.sure": {
        "common_beginning": ["texts"],
        "sure_text": ["writer", "word"],
        "fine_tests": ["writer", "word"],
    },
    "fewtests.forms": {
        "require_form": ["value"],
        "effect": ["form", "text"],
        "accepts": ["form", "text"],
        "opposite": ["form"],
        "form_fits": ["writer", "form"],
    },
    "fewtests.meets": {
        "first_accepted": ["writer", "form"],
        "all_fit": ["writer", "form"],
        "words_for": ["writer", "text", "many"],
        "how_many_for": ["writer", "text"],
    },
    "fewtests.fates": {
        "fates": ["writer", "word"],
        "worth": ["prices", "text"],
    },
    "fewtests.surplus": {
        "surplus": ["first", "second", "prices", "word"],
        "greatest_surplus": ["first", "second", "prices"],
        "is_bound": ["first", "second", "prices", "value", "n"],
    },
    "fewtests.exchange": {
        "marked": ["writer", "word"],
        "exchangeable": ["writer", "first", "second"],
        "emptied": ["writer", "buffer"],
        "needless": ["writer"],
    },
    "fewtests.pens": {
        "Writer": ["value"],
    },
    "fewtests.claims": {
        "require_claim": ["claim"],
        "decide": ["claim"],
    },
    "fewtests.checker": {
        "first_fault": ["certificate"],
    },
    "fewtests.presses": {
        "Press": ["writer"],
    },
    "fewtests.desks": {
        "Desk": ["kinds"],
    },
    "fewtests.texts": {
        "format_writer": ["writer"],
        "format_words": ["words"],
        "format_form": ["form"],
        "parse_writer": ["text"],
        "parse_words": ["text"],
        "parse_form": ["text"],
    },
}


class InterfaceTest(unittest.TestCase):
    def test_names_and_arguments(self):
        for module, functions in INTERFACE.items():
            for name, arguments in functions.items():
                with self.subTest(module=module, name=name):
                    found = getattr(importlib.import_module(module), name)
                    self.assertEqual(found.__module__, module)
                    self.assertEqual(list(inspect.signature(found).parameters), arguments)


class ReadmeTest(unittest.TestCase):
    def test_examples(self):
        found = doctest.testfile(str(PACKAGE.parent / "README.md"), module_relative=False, verbose=False)
        self.assertGreater(found.attempted, 5)
        self.assertEqual(found.failed, 0)


class Calls:
    """What functions and methods of the package call, by the names that stand in them: more than is run, never less."""

    def __init__(self):
        self.nodes = {}
        self.names = {}
        self.kept = set()
        for path in sorted(PACKAGE.rglob("*.py")):
            self.take(path.stem, ast.parse(path.read_text()))

    def take(self, module, tree):
        names = self.names[module] = {}
        for node in tree.body:
            if isinstance(node, ast.ImportFrom):
                names.update({told.name: (node.module.split(".")[-1], told.name) for told in node.names})
            if isinstance(node, ast.FunctionDef):
                names[node.name] = (module, node.name)
                self.nodes[module, node.name] = node
            if isinstance(node, ast.ClassDef):
                names[node.name] = (module, node.name + ".__init__")
                methods = [method for method in node.body if isinstance(method, ast.FunctionDef)]
                self.nodes.update({(module, node.name + "." + method.name): method for method in methods})
        for node in ast.walk(tree):
            if isinstance(node, ast.Attribute) and isinstance(node.ctx, ast.Store):
                self.kept.add(node.attr)

    def operators(self):
        for (module, name), node in self.nodes.items():
            plain = name.split(".")[-1]
            property_ = "property" in [told.id for told in node.decorator_list if isinstance(told, ast.Name)]
            if property_ or (plain.startswith("__") and plain not in ("__init__", "__iter__", "__call__")):
                yield module, name

    def run_by(self, start):
        found = [start]
        for module, name in found:
            for node in ast.walk(self.nodes[module, name]):
                for later in self.named(module, node):
                    if later in self.nodes and later not in found:
                        found.append(later)
        return found

    def named(self, module, node):
        if isinstance(node, ast.Name) and node.id in self.names[module]:
            told = self.names[module][node.id]
            return [told, (told[0], told[1] + ".__init__")]
        if isinstance(node, ast.Attribute):
            return [key for key in self.nodes if key[1].endswith("." + node.attr)]
        return []


class OperatorsTest(unittest.TestCase):
    def test_what_they_run_calls_nothing_that_has_the_name_of_an_attribute(self):
        calls = Calls()
        operators = list(calls.operators())
        self.assertIn(("pens", "Writer.__eq__"), operators)
        self.assertIn("index", calls.kept)
        self.assertIn(("residues", "inverted"), calls.run_by(("pens", "Writer.__eq__")))
        self.assertIn(("making", "_renumbered"), calls.run_by(("pens", "Writer.__lshift__")))
        for operator in operators:
            for module, name in calls.run_by(operator):
                with self.subTest(operator=operator, module=module, name=name):
                    for node in ast.walk(calls.nodes[module, name]):
                        if isinstance(node, ast.Call) and isinstance(node.func, ast.Attribute):
                            self.assertNotIn(node.func.attr, calls.kept, node.lineno)


class FilesTest(unittest.TestCase):
    def for_each(self, check):
        for path in sorted(PACKAGE.rglob("*.py")):
            with self.subTest(file=path.name):
                check(path.read_bytes().decode("ascii"))

    def test_nothing_but_sources(self):
        found = [path for path in PACKAGE.rglob("*") if path.is_file() and "__pycache__" not in path.parts]
        self.assertEqual([path for path in found if path.suffix != ".py"], [])
        self.assertIn(PACKAGE / "__init__.py", found)

    def test_signs_and_sizes(self):
        def check(text):
            self.assertFalse([sign for sign in text if sign != "\n" and not " " <= sign <= "~"])
            lines = text.split("\n")
            self.assertLessEqual(len(lines) - 1, 399)
            self.assertLessEqual(max(len(line) for line in lines), 120)

        self.for_each(check)

    def test_lengths_of_functions(self):
        def check(text):
            for node in ast.walk(ast.parse(text)):
                if isinstance(node, ast.FunctionDef):
                    self.assertLessEqual(node.end_lineno - node.lineno + 1, 40, node.name)

        self.for_each(check)

    def test_imports_come_from_the_package_or_the_few_that_are_allowed(self):
        def check(text):
            for node in ast.walk(ast.parse(text)):
                self.assertNotIsInstance(node, ast.Import)
                if isinstance(node, ast.ImportFrom) and node.module not in LIBRARY:
                    self.assertTrue(node.module.startswith("fewtests."), node.module)

        self.for_each(check)


if __name__ == "__main__":
    unittest.main()
