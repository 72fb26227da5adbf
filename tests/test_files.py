"""The interface stands in the told files, and the files keep to the plain rules of the language."""

import ast
import importlib
import inspect
import pathlib
import unittest

PACKAGE = pathlib.Path(__file__).resolve().parent.parent / "circlesettle"

INTERFACE = {
    "errors": [
        ("SheetError", None), ("BadSize", None), ("BadForm", None), ("BadAmount", None), ("BadCell", None),
        ("BadShift", None), ("TooDeep", None), ("BadText", None), ("NotInput", None), ("BadName", None),
        ("UnknownName", None), ("InUse", None), ("NothingToUndo", None), ("NothingToRedo", None),
        ("BadEntry", None), ("BadLink", None), ("CannotBeOut", None),
    ],
    "amounts": [
        ("is_amount", "(value)"), ("at_most", "(a, b)"), ("least_of", "(amounts)"), ("greatest_of", "(amounts)"),
        ("shifted", "(a, c)"), ("all_at_most", "(x, y)"),
    ],
    "sheets": [
        ("check_sheet", "(sheet)"), ("value_of", "(formula, x)"), ("values_of", "(sheet, x)"),
        ("is_solution", "(sheet, x)"), ("cells_in", "(formula)"),
    ],
}


def source_files():
    return sorted(path for path in PACKAGE.rglob("*") if path.is_file() and "__pycache__" not in path.parts)


class TestInterface(unittest.TestCase):
    def test_each_name_is_defined_in_its_file_with_its_arguments(self):
        for name, listed in INTERFACE.items():
            module = importlib.import_module("circlesettle." + name)
            for word, arguments in listed:
                with self.subTest(file=name, word=word):
                    found = getattr(module, word)
                    self.assertEqual(found.__module__, module.__name__)
                    if arguments is not None:
                        self.assertEqual(str(inspect.signature(found)), arguments)


class TestFiles(unittest.TestCase):
    def test_the_package_contains_python_files_alone(self):
        self.assertIn(PACKAGE / "__init__.py", source_files())
        self.assertEqual([path.name for path in source_files() if path.suffix != ".py"], [])

    def test_characters_and_sizes(self):
        for path in source_files():
            text = path.read_bytes().decode("ascii")
            with self.subTest(file=path.name):
                self.assertEqual([mark for mark in text if mark != "\n" and not " " <= mark <= "~"], [])
                self.assertLessEqual(len(text.splitlines()), 399)
                self.assertLessEqual(max(len(line) for line in text.splitlines()), 120)

    def test_functions_are_short(self):
        for path in source_files():
            for node in ast.walk(ast.parse(path.read_text())):
                if isinstance(node, ast.FunctionDef):
                    with self.subTest(file=path.name, function=node.name):
                        self.assertLessEqual(node.end_lineno - node.lineno + 1, 40)

    def test_imports_name_files_of_the_package(self):
        for path in source_files():
            for node in ast.walk(ast.parse(path.read_text())):
                with self.subTest(file=path.name):
                    self.assertNotIsInstance(node, ast.Import)
                    if isinstance(node, ast.ImportFrom):
                        self.assertEqual(node.level, 0)
                        self.assertTrue(node.module.startswith("circlesettle."))


if __name__ == "__main__":
    unittest.main()
