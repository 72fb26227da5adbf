"""The interface stands in the told files, and the files keep to the plain rules of the language."""

import ast
import importlib
import inspect
import pathlib
import unittest

PACKAGE = pathlib.Path(__file__).resolve().parent.parent / "circlesettle"

INTERFACE = {
    "errors": [
        ("SheetError", None), ("BadSize", None), ("BadForm", None), ("BadAmount", None), ("BadCell", None),
        ("BadShift", None), ("TooDeep", None), ("BadText", None), ("NotInput", None), ("BadName", None),
        ("UnknownName", None), ("InUse", None), ("NothingToUndo", None), ("NothingToRedo", None),
        ("BadEntry", None), ("BadLink", None), ("CannotBeOut", None),
    ],
    "amounts": [
        ("is_amount", "(value)"), ("at_most", "(a, b)"), ("least_of", "(amounts)"), ("greatest_of", "(amounts)"),
        ("shifted", "(a, c)"), ("all_at_most", "(x, y)"),
    ],
    "sheets": [
        ("check_sheet", "(sheet)"), ("value_of", "(formula, x)"), ("values_of", "(sheet, x)"),
        ("is_solution", "(sheet, x)"), ("cells_in", "(formula)"),
    ],
    "flat": [
        ("flat_form", "(sheet)"), ("flat_values", "(flat, x)"), ("is_flat_solution", "(flat, x)"),
        ("arcs_of", "(flat, cell)"),
    ],
    "reading": [
        ("lines_of", "(text)"), ("words_of", "(line)"), ("read_whole", "(word)"), ("read_sheet", "(text)"),
    ],
    "writing": [("write_formula", "(formula)"), ("write_sheet", "(sheet)")],
    "rounds": [
        ("one_round", "(flat, x)"), ("from_below", "(flat, *, rounds)"), ("from_above", "(flat, *, rounds)"),
        ("settled_from_below", "(flat, *, rounds)"), ("settled_from_above", "(flat, *, rounds)"),
        ("waves_from_below", "(flat, *, rounds)"), ("waves_from_above", "(flat, *, rounds)"),
        ("first_round", "(flat, *, cell, amount, rounds)"), ("is_low", "(flat, x)"), ("is_high", "(flat, x)"),
        ("bound_of", "(flat)"),
    ],
    "least": [
        ("are_ranks", "(plain, x, ranks)"), ("least_ranks", "(plain, x)"), ("flat_least", "(flat)"),
        ("least_solution", "(sheet)"), ("stages_from_below", "(flat)"), ("least_paper", "(flat)"),
        ("is_least_paper", "(flat, paper)"),
    ],
    "endless": [
        ("conditions_of", "(flat)"), ("opened", "(flat, places)"), ("endless_cells", "(plain)"),
        ("endless_paper", "(plain)"), ("shows_endless", "(plain, choices, potentials)"),
        ("gaining_way", "(plain, cell, choices)"), ("is_gaining", "(plain, choices, way)"),
        ("holding_choices", "(plain)"), ("are_holding", "(plain, choices, cells)"),
    ],
    "greatest": [
        ("held_ranks", "(plain)"), ("tight_ranks", "(plain, x)"), ("shows_greatest", "(plain, x, held, tight)"),
        ("stages_from_above", "(flat)"), ("flat_greatest", "(flat)"), ("greatest_solution", "(sheet)"),
        ("greatest_paper", "(flat)"), ("is_greatest_paper", "(flat, paper)"),
    ],
    "knots": [
        ("hangs_on", "(flat, cell)"), ("hanging", "(flat, cell)"), ("touched", "(flat, cell)"), ("knots_of", "(flat)"),
        ("is_circle", "(flat, knot)"), ("depths_of", "(flat)"), ("knot_sheet", "(flat, knot, x)"),
        ("solved_by_knots", "(flat, *, greatest)"),
    ],
    "forms": [
        ("term_value", "(term, x)"), ("form_value", "(form, x)"), ("is_no_more", "(term, other)"),
        ("form_of", "(formula)"), ("is_form", "(form)"), ("same_formula", "(first, second)"),
        ("telling", "(first, second, *, count)"),
    ],
    "goals": [
        ("set_input", "(flat, cell, amount)"), ("need", "(flat, input_cell, *, cell, goal)"),
        ("need_in_greatest", "(flat, input_cell, *, cell, goal)"), ("answers", "(flat, input_cell, *, cell, most)"),
        ("is_missed", "(flat, input_cell, *, cell, goal, amount, x)"),
        ("miss_of", "(flat, input_cell, *, cell, goal, amount)"),
    ],
    "checker": [("check", "(sheet, claim, paper)"), ("paper_of", "(sheet, claim)"), ("is_true", "(sheet, claim)")],
    "strategies": [
        ("is_choice", "(flat, choice, *, kind)"), ("put_in", "(flat, choice, *, kind)"),
        ("is_best", "(flat, choice, *, kind)"), ("best_choice", "(flat, *, kind)"), ("better", "(flat, choice, x)"),
        ("steps_of", "(flat, choice)"),
    ],
    "book": [("Book", "()"), ("replay", "(journal)")],
    "joining": [
        ("joined", "(first, second, *, links)"), ("taken_out", "(sheet, cell)"), ("in_order", "(sheet, order)"),
        ("fixed", "(sheet, cell, amount)"),
    ],
}

METHODS = {
    "__len__": "(self)", "__contains__": "(self, name)", "put": "(self, name, formula)", "remove": "(self, name)",
    "rename": "(self, name, other)", "undo": "(self)", "redo": "(self)", "do_all": "(self, deeds)",
    "what_if": "(self, deeds)", "names": "(self)", "formula": "(self, name)", "least": "(self, name)",
    "greatest": "(self, name)", "is_settled": "(self, name)", "users": "(self, name)", "sheet": "(self)",
    "journal": "(self)",
}


def source_files():
    return sorted(path for path in PACKAGE.rglob("*") if path.is_file() and "__pycache__" not in path.parts)


class TestInterface(unittest.TestCase):
    def test_each_name_is_defined_in_its_file_with_its_arguments(self):
        for name, listed in INTERFACE.items():
            module = importlib.import_module("circlesettle." + name)
            for word, arguments in listed:
                with self.subTest(file=name, word=word):
                    found = getattr(module, word)
                    self.assertEqual(found.__module__, module.__name__)
                    if arguments is not None:
                        self.assertEqual(str(inspect.signature(found)), arguments)


    def test_each_method_is_defined_in_its_class(self):
        book = importlib.import_module("circlesettle.book").Book
        for word, arguments in METHODS.items():
            self.assertEqual(str(inspect.signature(vars(book)[word])), arguments)
        for word in ("can_undo", "can_redo"):
            self.assertIsInstance(vars(book)[word], property)


class TestFiles(unittest.TestCase):
    def test_the_package_contains_python_files_alone(self):
        self.assertIn(PACKAGE / "__init__.py", source_files())
        self.assertEqual([path.name for path in source_files() if path.suffix != ".py"], [])

    def test_characters_and_sizes(self):
        for path in source_files():
            text = path.read_bytes().decode("ascii")
            with self.subTest(file=path.name):
                self.assertEqual([mark for mark in text if mark != "\n" and not " " <= mark <= "~"], [])
                self.assertLessEqual(len(text.splitlines()), 399)
                self.assertLessEqual(max(len(line) for line in text.splitlines()), 120)

    def test_functions_are_short(self):
        for path in source_files():
            for node in ast.walk(ast.parse(path.read_text())):
                if isinstance(node, ast.FunctionDef):
                    with self.subTest(file=path.name, function=node.name):
                        self.assertLessEqual(node.end_lineno - node.lineno + 1, 40)


if __name__ == "__main__":
    unittest.main()
