"""Tests of the interface, and of the rules for files that can be counted."""

import ast
import inspect
import unittest
from importlib import import_module
from pathlib import Path

PACKAGE = Path(__file__).resolve().parent.parent / "shadowrow"
CLASSES = {
    "errors": ["SetsError", "BadSet", "BadSize", "BadNumber", "BadRow"],
    "answers": ["Answer", "Can", "Barred"],
}
FUNCTIONS = {
    "sets": {"number_of": ["some"], "set_of": ["size", "number"], "beneath": ["some"]},
    "counts": {"under": ["size", "many"], "over": ["size", "many"]},
    "rows": {"told": ["row"], "has": ["row", "some"], "most": ["row"]},
}
# The methods that each class defines itself, with their arguments.
METHODS = {
    "Can": {"shows": ["self", "row"]},
    "Barred": {"__init__": ["self", "size", "most"], "shows": ["self", "row"]},
}


def files():
    return sorted(PACKAGE.rglob("*.py"))


def defined(module, kind):
    """The names that a file itself defines at its top."""
    body = ast.parse((PACKAGE / f"{module}.py").read_text()).body
    return [each.name for each in body if isinstance(each, kind)]


class InterfaceTest(unittest.TestCase):
    def test_classes_are_defined_in_their_files(self):
        for module, names in CLASSES.items():
            for name in names:
                self.assertIn(name, defined(module, ast.ClassDef))

    def test_functions_are_defined_in_their_files_with_their_arguments(self):
        for module, functions in FUNCTIONS.items():
            for name, arguments in functions.items():
                self.assertIn(name, defined(module, ast.FunctionDef))
                function = getattr(import_module(f"shadowrow.{module}"), name)
                self.assertEqual(list(inspect.signature(function).parameters), arguments)

    def test_methods_are_defined_in_their_classes_with_their_arguments(self):
        answers = import_module("shadowrow.answers")
        for name, methods in METHODS.items():
            for method, arguments in methods.items():
                own = vars(getattr(answers, name))[method]
                self.assertEqual(list(inspect.signature(own).parameters), arguments)


class FilesTest(unittest.TestCase):
    def test_the_package_holds_only_python_files(self):
        for path in PACKAGE.rglob("*"):
            if "__pycache__" not in path.parts:
                self.assertTrue(path.is_dir() or path.suffix == ".py", path)
        self.assertIn(PACKAGE / "__init__.py", files())

    def test_signs_and_lengths(self):
        for path in files():
            text = path.read_text()
            self.assertTrue(all([each == "\n" or " " <= each <= "~" for each in text]), path)
            self.assertLessEqual(len(text.splitlines()), 399, path)
            self.assertLessEqual(max([len(line) for line in text.splitlines()]), 120, path)

    def test_functions_are_short(self):
        for path in files():
            for node in ast.walk(ast.parse(path.read_text())):
                if isinstance(node, ast.FunctionDef):
                    self.assertLessEqual(node.end_lineno - node.lineno + 1, 40, node.name)

    def test_imports_are_of_the_package_or_of_what_is_allowed(self):
        for path in files():
            for node in ast.walk(ast.parse(path.read_text())):
                self.assertNotIsInstance(node, ast.Import, path)
                if isinstance(node, ast.ImportFrom):
                    self.assertEqual(node.level, 0, path)
                    self.assertIn(node.module.split(".")[0], ("shadowrow", "math"), path)


if __name__ == "__main__":
    unittest.main()
