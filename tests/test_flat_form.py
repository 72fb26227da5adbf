"""Point 8: the flat form of a sheet."""

import copy
import random
import unittest

from circlesettle.flat import flat_form, flat_values
from circlesettle.sheets import check_sheet, value_of, values_of
from reference import some_sheet


class TestEachKind(unittest.TestCase):
    def test_the_example_of_the_document(self):
        self.assertEqual(flat_form([("least", [("more", ("cell", 0), 1), ("amount", 5)])]),
                         [("least", [(0, 1), (1, 0)]), ("amount", 5)])

    def test_amount(self):
        self.assertEqual(flat_form([("amount", 5)]), [("amount", 5)])
        self.assertEqual(flat_form([("amount", 0), ("amount", None)]), [("amount", 0), ("amount", None)])

    def test_cell(self):
        self.assertEqual(flat_form([("cell", 1), ("cell", 1)]), [("greatest", [(1, 0)]), ("greatest", [(1, 0)])])

    def test_more_of_a_cell(self):
        self.assertEqual(flat_form([("more", ("cell", 0), -3)]), [("greatest", [(0, -3)])])

    def test_more_of_another_formula(self):
        self.assertEqual(flat_form([("more", ("amount", 4), 3)]), [("greatest", [(1, 3)]), ("amount", 4)])

    def test_least_and_greatest(self):
        for word in ("least", "greatest"):
            with self.subTest(word=word):
                sheet = [(word, [("cell", 1), ("amount", 3), ("when", 0, 2, ("cell", 1))]), ("amount", 9)]
                self.assertEqual(flat_form(sheet), [
                    (word, [(1, 0), (2, 0), (3, 0)]), ("amount", 9), ("amount", 3), ("when", 0, 2, 1)])

    def test_least_and_greatest_of_one_formula_and_of_six(self):
        for word in ("least", "greatest"):
            with self.subTest(word=word):
                self.assertEqual(flat_form([(word, [("cell", 0)])]), [(word, [(0, 0)])])
                six = [("amount", 1), ("cell", 0), ("amount", 2), ("cell", 0), ("cell", 0), ("amount", 3)]
                self.assertEqual(flat_form([(word, six)]), [
                    (word, [(1, 0), (0, 0), (2, 0), (0, 0), (0, 0), (3, 0)]),
                    ("amount", 1), ("amount", 2), ("amount", 3)])

    def test_when(self):
        self.assertEqual(flat_form([("when", 0, 7, ("cell", 1)), ("amount", 1)]),
                         [("when", 0, 7, 1), ("amount", 1)])
        self.assertEqual(flat_form([("when", 1, 7, ("amount", None)), ("amount", 1)]),
                         [("when", 1, 7, 2), ("amount", 1), ("amount", None)])


class TestNesting(unittest.TestCase):
    def test_more_within_more_has_a_cell_of_its_own(self):
        self.assertEqual(flat_form([("more", ("more", ("cell", 0), -5), 3)]),
                         [("greatest", [(1, 3)]), ("greatest", [(0, -5)])])
        self.assertEqual(flat_form([("more", ("more", ("more", ("amount", 7), 1), 2), 3)]),
                         [("greatest", [(1, 3)]), ("greatest", [(2, 2)]), ("greatest", [(3, 1)]), ("amount", 7)])

    def test_the_shift_of_more_within_least_and_greatest_goes_into_the_arc(self):
        for word in ("least", "greatest"):
            with self.subTest(word=word):
                sheet = [(word, [("more", ("cell", 0), 4), ("more", ("amount", 8), -2)])]
                self.assertEqual(flat_form(sheet), [(word, [(0, 4), (1, -2)]), ("amount", 8)])

    def test_only_the_outer_shift_goes_into_the_arc(self):
        sheet = [("least", [("more", ("more", ("cell", 0), -5), 3), ("more", ("least", [("cell", 0)]), 1)])]
        self.assertEqual(flat_form(sheet),
                         [("least", [(1, 3), (2, 1)]), ("greatest", [(0, -5)]), ("least", [(0, 0)])])

    def test_more_with_the_shift_0(self):
        self.assertEqual(flat_form([("greatest", [("more", ("amount", 2), 0), ("more", ("cell", 0), 0)])]),
                         [("greatest", [(1, 0), (0, 0)]), ("amount", 2)])

    def test_more_within_when_has_a_cell_of_its_own(self):
        self.assertEqual(flat_form([("when", 0, 2, ("more", ("cell", 0), 6))]),
                         [("when", 0, 2, 1), ("greatest", [(0, 6)])])

    def test_a_cell_within_each_kind_needs_no_new_cell(self):
        sheet = [("more", ("cell", 1), 2), ("least", [("cell", 0), ("more", ("cell", 2), 1)]),
                 ("greatest", [("more", ("cell", 3), -1), ("cell", 3)]), ("when", 2, 5, ("cell", 0))]
        self.assertEqual(flat_form(sheet), [
            ("greatest", [(1, 2)]), ("least", [(0, 0), (2, 1)]), ("greatest", [(3, -1), (3, 0)]), ("when", 2, 5, 0)])

    def test_least_within_greatest_and_when_within_when(self):
        sheet = [("greatest", [("least", [("amount", 1), ("amount", 2)]), ("when", 0, 1, ("when", 0, 2, ("amount", 3)))])]
        self.assertEqual(flat_form(sheet), [
            ("greatest", [(1, 0), (2, 0)]), ("least", [(3, 0), (4, 0)]), ("when", 0, 1, 5),
            ("amount", 1), ("amount", 2), ("when", 0, 2, 6), ("amount", 3)])

    def test_equal_formulas_have_cells_of_their_own(self):
        part = ("amount", 4)
        self.assertEqual(flat_form([("least", [part, part]), ("more", part, 1)]), [
            ("least", [(2, 0), (3, 0)]), ("greatest", [(4, 1)]), part, part, part])


class TestOrder(unittest.TestCase):
    def test_the_cells_of_all_cells_come_before_those_of_added_ones(self):
        sheet = [
            ("least", [("greatest", [("amount", 1), ("cell", 2)]), ("amount", 2)]),
            ("more", ("when", 0, 3, ("amount", 4)), 5),
            ("greatest", [("more", ("least", [("amount", 6), ("more", ("amount", 7), 1)]), 2), ("cell", 1)]),
        ]
        self.assertEqual(flat_form(sheet), [
            ("least", [(3, 0), (4, 0)]),
            ("greatest", [(5, 5)]),
            ("greatest", [(6, 2), (1, 0)]),
            ("greatest", [(7, 0), (2, 0)]),
            ("amount", 2),
            ("when", 0, 3, 8),
            ("least", [(9, 0), (10, 1)]),
            ("amount", 1),
            ("amount", 4),
            ("amount", 6),
            ("amount", 7),
        ])

    def test_deep_formulas_of_24_cells(self):
        sheet = []
        for cell in range(24):
            formula = ("cell", (cell + 1) % 24)
            for word in ("more", "least", "when", "more", "greatest"):
                if word == "more":
                    formula = (word, formula, cell - 7)
                elif word == "when":
                    formula = (word, cell, cell + 1, formula)
                else:
                    formula = (word, [formula])
            sheet.append(formula)
        check_sheet(sheet)
        # greatest [more [when [least [more cell]]]]: the shifts of both "more" go into arcs.
        expected = [("greatest", [(24 + cell, cell - 7)]) for cell in range(24)]
        expected += [("when", cell, cell + 1, 48 + cell) for cell in range(24)]
        expected += [("least", [((cell + 1) % 24, cell - 7)]) for cell in range(24)]
        self.assertEqual(flat_form(sheet), expected)

    def test_wide_formulas(self):
        def wide(depth):
            return ("least", [wide(depth - 1)] * 2) if depth else ("amount", 3)
        flat = flat_form([wide(5)] * 3)
        self.assertEqual(len(flat), 3 * 63)
        self.assertEqual(flat[:3], [("least", [(3, 0), (4, 0)]), ("least", [(5, 0), (6, 0)]), ("least", [(7, 0), (8, 0)])])
        self.assertEqual(flat[3 * 31:], [("amount", 3)] * 96)


class TestMeaning(unittest.TestCase):
    def test_the_added_cells_have_the_values_of_their_formulas(self):
        rng = random.Random(8)
        for _ in range(300):
            count = rng.randint(1, 5)
            sheet = some_sheet(rng, count, rng.randint(0, 5))
            flat = flat_form(sheet)
            x = [rng.choice([None, 0, 1, 2, 3, 7]) for _ in range(count)]
            whole = x + [0] * (len(flat) - count)
            for _ in range(7):
                whole = x + flat_values(flat, whole)[count:]
            with self.subTest(sheet=sheet, x=x):
                self.assertEqual(flat_values(flat, whole)[:count], values_of(sheet, x))

    def test_amounts_at_the_limits(self):
        formula = ("more", ("more", ("amount", 999), 999), -999)
        flat = flat_form([formula])
        self.assertEqual(flat, [("greatest", [(1, -999)]), ("greatest", [(2, 999)]), ("amount", 999)])
        self.assertEqual(flat_values(flat, [999, 1998, 999])[0], value_of(formula, [0]))


class TestNothingIsShared(unittest.TestCase):
    SHEET = [("least", [("more", ("cell", 1), 2), ("greatest", [("amount", 1), ("cell", 0)])]), ("when", 0, 2, ("cell", 1))]

    def test_the_sheet_stays(self):
        sheet = copy.deepcopy(self.SHEET)
        flat_form(sheet)
        self.assertEqual(sheet, self.SHEET)

    def test_changing_the_answer_changes_neither_the_sheet_nor_a_later_answer(self):
        sheet = copy.deepcopy(self.SHEET)
        first = flat_form(sheet)
        kept = copy.deepcopy(first)
        for formula in first:
            if formula[0] in ("least", "greatest"):
                formula[1].append((0, 9))
        first.clear()
        self.assertEqual(sheet, self.SHEET)
        self.assertEqual(flat_form(sheet), kept)


if __name__ == "__main__":
    unittest.main()
