"""The shape of the package: where names are defined, what is imported, sizes, characters."""

import ast
import inspect
import pathlib
import unittest

import partfilter
from partfilter import (
    alike, classes, comparing, ends, family, filters, ladder, lengths, machines, notation, readers,
    semigroups, separating, unseen, workshop,
)

PACKAGE = pathlib.Path(partfilter.__file__).parent
INTERFACE = {
    semigroups: {
        "fault_of": ["semigroup"],
        "value_of": ["semigroup", "word"],
        "first_words": ["semigroup"],
        "has_common_word": ["semigroup", "first", "second"],
    },
    machines: {
        "machine_fault": ["machine"],
        "machine_takes": ["machine", "word"],
        "semigroup_of": ["machine"],
    },
    filters: {
        "filter_fault": ["lines"],
        "takes": ["lines", "word"],
        "depth_of": ["lines"],
        "trimmed": ["lines"],
    },
    alike: {
        "are_alike": ["one", "two", "depth"],
        "far": ["depth"],
    },
    family: {
        "product_of": ["table", "one", "two"],
        "settling": ["table", "one"],
        "settled": ["table", "one"],
        "turned": ["table", "one"],
        "family_of": ["semigroup"],
    },
    readers: {
        "reader_of": ["lines", "letters"],
        "refuted_by": ["semigroup", "first", "second", "lines"],
    },
    comparing: {
        "first_taken": ["lines", "letters"],
        "first_difference": ["one", "two", "letters"],
        "count_taken": ["lines", "letters", "size"],
        "least_reader": ["lines", "letters"],
    },
    classes: {
        "classes_of": ["semigroup"],
    },
    separating: {
        "meeting": ["semigroup", "sets"],
        "separate": ["semigroup", "first", "second"],
    },
    unseen: {
        "word_of": ["semigroup", "number", "value", "depth"],
        "unseen": ["semigroup", "sets", "depth"],
    },
    lengths: {
        "lengths_apart": ["semigroup", "first", "second"],
    },
    ends: {
        "ends_apart": ["semigroup", "first", "second", "most"],
        "round_words": ["rounds", "times"],
    },
    ladder: {
        "ladder": ["semigroup", "first", "second"],
    },
    workshop: {
        "Workshop": ["semigroup"],
    },
    notation: {
        "format_word": ["word"],
        "parse_word": ["letters", "text"],
        "format_semigroup": ["semigroup"],
        "parse_semigroup": ["text"],
        "format_filter": ["lines"],
        "parse_filter": ["text"],
        "format_machine": ["machine"],
        "parse_machine": ["text"],
    },
}
# The methods of the class Workshop, and their arguments.
METHODS = {
    "set_letter": ["letter", "value"],
    "undo": [],
    "redo": [],
    "semigroup": [],
    "changes": [],
    "undone": [],
    "separate": ["first", "second"],
    "kept": [],
}


def texts():
    for path in sorted(PACKAGE.rglob("*.py")):
        yield path, path.read_text("utf-8")


class Interface(unittest.TestCase):
    def test_names_and_arguments(self):
        for module, functions in INTERFACE.items():
            for name, arguments in functions.items():
                with self.subTest(name=name):
                    function = getattr(module, name)
                    self.assertEqual(list(inspect.signature(function).parameters), arguments)
                    self.assertEqual(function.__module__, module.__name__)

    def test_methods_stand_in_the_class_itself(self):
        for name, arguments in METHODS.items():
            method = vars(workshop.Workshop)[name]
            self.assertEqual(list(inspect.signature(method).parameters), ["self"] + arguments)


class Shape(unittest.TestCase):
    def test_the_folder_holds_the_package_alone(self):
        for path in PACKAGE.rglob("*"):
            if path.name != "__pycache__" and path.parent.name != "__pycache__":
                self.assertTrue(path.suffix == ".py", path)
        self.assertTrue((PACKAGE / "__init__.py").exists())

    def test_sizes(self):
        for path, text in texts():
            rows = text.splitlines()
            self.assertLessEqual(len(rows), 399, path)
            self.assertLessEqual(max(map(len, rows)), 120, path)
            for node in ast.walk(ast.parse(text)):
                if isinstance(node, ast.FunctionDef):
                    self.assertLessEqual(node.end_lineno - node.lineno + 1, 40, node.name)

    def test_characters(self):
        for path, text in texts():
            self.assertEqual([c for c in text if c != "\n" and not " " <= c <= "~"], [], path)

    def test_imports_are_from_the_package_alone(self):
        for path, text in texts():
            for node in ast.walk(ast.parse(text)):
                self.assertNotIsInstance(node, ast.Import, path)
                if isinstance(node, ast.ImportFrom):
                    self.assertEqual(node.level, 0, path)
                    self.assertTrue(node.module.startswith("partfilter."), path)

    def test_imported_names_are_used_and_come_from_where_they_are_defined(self):
        for path, text in texts():
            tree = ast.parse(text)
            used = {node.id for node in ast.walk(tree) if isinstance(node, ast.Name)}
            for node in tree.body:
                if isinstance(node, ast.ImportFrom):
                    source = PACKAGE / (node.module.split(".")[-1] + ".py")
                    for alias in node.names:
                        self.assertIn(alias.name, used, path)
                        self.assertIn(alias.name, defined_in(source), path)


def defined_in(path):
    names = set()
    for node in ast.parse(path.read_text("utf-8")).body:
        if isinstance(node, (ast.FunctionDef, ast.ClassDef)):
            names.add(node.name)
        if isinstance(node, ast.Assign):
            names.update(target.id for target in node.targets)
    return names


if __name__ == "__main__":
    unittest.main()
