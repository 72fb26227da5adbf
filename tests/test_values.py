"""Points 4 and 5: values of formulas, solutions of sheets, and the cells of a formula."""

import copy
import itertools
import unittest

from circlesettle.amounts import all_at_most, at_most
from circlesettle.sheets import cells_in, is_solution, value_of, values_of

GREAT = 10 ** 60

NESTED = ("greatest", [
    ("least", [("more", ("cell", 0), 2), ("amount", 8)]),
    ("when", 1, 4, ("more", ("least", [("cell", 2), ("cell", 1)]), -3)),
])


class TestValueOf(unittest.TestCase):
    def test_amount(self):
        self.assertEqual(value_of(("amount", 5), [1]), 5)
        self.assertEqual(value_of(("amount", 0), [None]), 0)
        self.assertIsNone(value_of(("amount", None), [1]))

    def test_cell(self):
        self.assertEqual(value_of(("cell", 0), [4, 9]), 4)
        self.assertEqual(value_of(("cell", 1), [4, 9]), 9)
        self.assertIsNone(value_of(("cell", 1), [4, None]))

    def test_more(self):
        self.assertEqual(value_of(("more", ("cell", 0), 3), [4]), 7)
        self.assertEqual(value_of(("more", ("cell", 0), -3), [4]), 1)
        self.assertEqual(value_of(("more", ("cell", 0), -4), [4]), 0)
        self.assertEqual(value_of(("more", ("cell", 0), -5), [4]), 0)
        self.assertIsNone(value_of(("more", ("cell", 0), 3), [None]))
        self.assertIsNone(value_of(("more", ("cell", 0), -3), [None]))
        self.assertIsNone(value_of(("more", ("amount", None), -999), [0]))

    def test_the_floor_stands_at_each_step(self):
        formula = ("more", ("more", ("cell", 0), -5), 3)
        self.assertEqual([value_of(formula, [amount]) for amount in (0, 4, 5, 6, None)], [3, 3, 3, 4, None])

    def test_least(self):
        formula = ("least", [("cell", 0), ("cell", 1), ("amount", 6)])
        self.assertEqual(value_of(formula, [3, 9]), 3)
        self.assertEqual(value_of(formula, [9, 3]), 3)
        self.assertEqual(value_of(formula, [9, 7]), 6)
        self.assertEqual(value_of(formula, [None, None]), 6)
        self.assertEqual(value_of(formula, [None, 2]), 2)
        self.assertIsNone(value_of(("least", [("cell", 0), ("cell", 1)]), [None, None]))

    def test_greatest(self):
        formula = ("greatest", [("cell", 0), ("cell", 1), ("amount", 6)])
        self.assertEqual(value_of(formula, [3, 9]), 9)
        self.assertEqual(value_of(formula, [9, 3]), 9)
        self.assertEqual(value_of(formula, [3, 3]), 6)
        self.assertIsNone(value_of(formula, [None, 3]))
        self.assertIsNone(value_of(formula, [3, None]))

    def test_one_formula_in_least_and_greatest(self):
        for amount in (0, 4, None):
            with self.subTest(amount=amount):
                self.assertEqual(value_of(("least", [("cell", 0)]), [amount]), amount)
                self.assertEqual(value_of(("greatest", [("cell", 0)]), [amount]), amount)

    def test_when_at_below_and_above_its_threshold(self):
        formula = ("when", 0, 5, ("cell", 1))
        self.assertEqual(value_of(formula, [4, 8]), 0)
        self.assertEqual(value_of(formula, [5, 8]), 8)
        self.assertEqual(value_of(formula, [6, 8]), 8)
        self.assertEqual(value_of(formula, [0, 8]), 0)

    def test_when_at_the_least_threshold(self):
        formula = ("when", 0, 1, ("amount", 3))
        self.assertEqual([value_of(formula, [amount]) for amount in (0, 1, 2)], [0, 3, 3])

    def test_when_with_endless(self):
        formula = ("when", 0, 999, ("cell", 1))
        self.assertEqual(value_of(formula, [None, 8]), 8)
        self.assertIsNone(value_of(formula, [None, None]))
        self.assertIsNone(value_of(formula, [999, None]))
        self.assertEqual(value_of(formula, [998, None]), 0)

    def test_when_over_its_own_cell_and_over_a_value_of_zero(self):
        self.assertEqual(value_of(("when", 0, 2, ("cell", 0)), [1]), 0)
        self.assertEqual(value_of(("when", 0, 2, ("cell", 0)), [2]), 2)
        self.assertEqual(value_of(("when", 0, 2, ("amount", 0)), [7]), 0)

    def test_nested(self):
        self.assertEqual(value_of(NESTED, [1, 3, 50]), 3)
        self.assertEqual(value_of(NESTED, [1, 40, 50]), 37)
        self.assertEqual(value_of(NESTED, [None, 4, 50]), 8)
        self.assertEqual(value_of(NESTED, [0, None, None]), None)
        self.assertEqual(value_of(NESTED, [0, None, 9]), 6)

    def test_a_part_within_five_others(self):
        formula = ("cell", 0)
        for _ in range(5):
            formula = ("more", formula, 2)
        self.assertEqual(value_of(formula, [3]), 13)

    def test_amounts_of_any_size(self):
        self.assertEqual(value_of(("more", ("cell", 0), 1), [GREAT]), GREAT + 1)
        self.assertEqual(value_of(("least", [("cell", 0), ("cell", 1)]), [GREAT, GREAT + 1]), GREAT)
        self.assertEqual(value_of(("greatest", [("cell", 0), ("cell", 1)]), [GREAT, GREAT + 1]), GREAT + 1)
        self.assertEqual(value_of(("when", 0, 5, ("cell", 1)), [GREAT, 2]), 2)

    def test_formulas_beyond_the_limits_raise_no_error(self):
        deep = ("cell", 0)
        for _ in range(20):
            deep = ("more", deep, 1000)
        self.assertEqual(value_of(deep, [1]), 20001)
        self.assertEqual(value_of(("least", [("amount", 2000 - k) for k in range(9)]), [0]), 1992)
        self.assertEqual(value_of(("when", 0, 0, ("amount", 1)), [0]), 1)
        self.assertIsNone(value_of(("least", []), [0]))
        self.assertEqual(value_of(("greatest", []), [0]), 0)

    def test_if_amounts_grow_values_grow_or_stay(self):
        formulas = [
            ("amount", 2), ("cell", 1), ("more", ("cell", 0), -2), ("least", [("cell", 0), ("cell", 1)]),
            ("greatest", [("cell", 0), ("more", ("cell", 1), 1)]), ("when", 0, 2, ("cell", 1)),
            ("when", 0, 3, ("when", 1, 1, ("more", ("cell", 0), -1))),
        ]
        lists = [list(x) for x in itertools.product((0, 1, 2, 3, 4, None), repeat=2)]
        for formula in formulas:
            for x, y in itertools.product(lists, lists):
                if all_at_most(x, y):
                    with self.subTest(formula=formula, x=x, y=y):
                        self.assertTrue(at_most(value_of(formula, x), value_of(formula, y)))


class TestValuesOf(unittest.TestCase):
    def test_a_value_for_each_cell_in_order(self):
        sheet = [("amount", 4), ("more", ("cell", 0), 2), ("when", 2, 3, ("amount", None)), ("cell", 1)]
        self.assertEqual(values_of(sheet, [1, 10, 2, 7]), [4, 3, 0, 10])
        self.assertEqual(values_of(sheet, [None, None, 3, 0]), [4, None, None, None])

    def test_all_values_are_taken_at_the_told_amounts(self):
        self.assertEqual(values_of([("cell", 1), ("cell", 2), ("cell", 0)], [1, 2, 3]), [2, 3, 1])

    def test_one_and_twenty_four_cells(self):
        self.assertEqual(values_of([("cell", 0)], [5]), [5])
        sheet = [("more", ("cell", 23 - cell), cell) for cell in range(24)]
        self.assertEqual(values_of(sheet, list(range(24))), [23] * 24)

    def test_what_is_handed_in_stays(self):
        sheet, x = [NESTED, ("least", [("cell", 0), ("cell", 1)]), ("cell", 2)], [1, None, 3]
        before = copy.deepcopy((sheet, x))
        values_of(sheet, x)
        value_of(NESTED, x)
        is_solution(sheet, x)
        cells_in(NESTED)
        self.assertEqual((sheet, x), before)

    def test_what_is_returned_is_new(self):
        sheet, x = [("cell", 0), ("cell", 1)], [3, None]
        first = values_of(sheet, x)
        self.assertIsNot(first, x)
        first[0] = 99
        first.append(1)
        self.assertEqual(x, [3, None])
        self.assertEqual(values_of(sheet, x), [3, None])


class TestIsSolution(unittest.TestCase):
    def test_a_sheet_with_one_solution(self):
        sheet = [("least", [("more", ("cell", 0), 1), ("amount", 5)])]
        self.assertIs(is_solution(sheet, [5]), True)
        for amount in (0, 4, 6, None):
            with self.subTest(amount=amount):
                self.assertIs(is_solution(sheet, [amount]), False)

    def test_one_wrong_cell_is_enough(self):
        sheet = [("amount", 3), ("more", ("cell", 0), 1), ("cell", 1)]
        self.assertIs(is_solution(sheet, [3, 4, 4]), True)
        for place in range(3):
            for amount in (0, 9, None):
                x = [3, 4, 4]
                x[place] = amount
                with self.subTest(x=x):
                    self.assertIs(is_solution(sheet, x), False)

    def test_a_circle_with_several_solutions(self):
        sheet = [("cell", 1), ("cell", 0)]
        for amount in (0, 1, 7, GREAT, None):
            with self.subTest(amount=amount):
                self.assertIs(is_solution(sheet, [amount, amount]), True)
        self.assertIs(is_solution(sheet, [1, 2]), False)
        self.assertIs(is_solution(sheet, [0, None]), False)

    def test_a_circle_that_grows_has_the_endless_solution_alone(self):
        sheet = [("more", ("cell", 0), 1)]
        self.assertIs(is_solution(sheet, [None]), True)
        self.assertIs(is_solution(sheet, [0]), False)
        self.assertIs(is_solution(sheet, [GREAT]), False)

    def test_a_circle_that_falls_has_two_solutions(self):
        sheet = [("more", ("cell", 0), -1)]
        found = [amount for amount in (0, 1, 2, 999, None) if is_solution(sheet, [amount])]
        self.assertEqual(found, [0, None])

    def test_a_condition_in_a_circle(self):
        sheet = [("when", 0, 3, ("amount", 5))]
        found = [amount for amount in (0, 1, 2, 3, 4, 5, 6, None) if is_solution(sheet, [amount])]
        self.assertEqual(found, [0, 5])

    def test_the_solutions_of_a_small_sheet(self):
        sheet = [("least", [("cell", 1), ("amount", 2)]), ("greatest", [("cell", 0), ("amount", 1)])]
        lists = itertools.product((0, 1, 2, 3, None), repeat=2)
        self.assertEqual([x for x in lists if is_solution(sheet, list(x))], [(1, 1), (2, 2)])


class TestCellsIn(unittest.TestCase):
    def test_each_word(self):
        self.assertEqual(cells_in(("amount", 3)), [])
        self.assertEqual(cells_in(("amount", None)), [])
        self.assertEqual(cells_in(("cell", 4)), [4])
        self.assertEqual(cells_in(("more", ("cell", 2), 9)), [2])
        self.assertEqual(cells_in(("more", ("amount", 2), 9)), [])
        self.assertEqual(cells_in(("least", [("cell", 2), ("cell", 5)])), [2, 5])
        self.assertEqual(cells_in(("greatest", [("cell", 2), ("cell", 5)])), [2, 5])
        self.assertEqual(cells_in(("when", 7, 3, ("amount", 1))), [7])

    def test_both_cells_of_when(self):
        self.assertEqual(cells_in(("when", 7, 3, ("cell", 1))), [1, 7])
        self.assertEqual(cells_in(("when", 1, 3, ("cell", 7))), [1, 7])
        self.assertEqual(cells_in(("when", 3, 1, ("cell", 3))), [3])

    def test_cells_are_ascending(self):
        cells = [10, 9, 2, 23, 1, 0]
        self.assertEqual(cells_in(("least", [("cell", cell) for cell in cells])), [0, 1, 2, 9, 10, 23])
        # Python itself goes through a set of these in another order.
        self.assertEqual(cells_in(("least", [("cell", 16), ("cell", 9), ("cell", 8)])), [8, 9, 16])

    def test_each_cell_stands_once(self):
        formula = ("greatest", [("cell", 3), ("more", ("cell", 3), 1), ("when", 3, 2, ("cell", 0)), ("cell", 0)])
        self.assertEqual(cells_in(formula), [0, 3])

    def test_nested(self):
        self.assertEqual(cells_in(NESTED), [0, 1, 2])
        formula = ("cell", 6)
        for cell in (5, 4, 3, 2, 1):
            formula = ("when", cell, 9, formula)
        self.assertEqual(cells_in(formula), [1, 2, 3, 4, 5, 6])

    def test_what_is_returned_is_new(self):
        formula = ("least", [("cell", 1), ("cell", 0)])
        first = cells_in(formula)
        first.clear()
        self.assertEqual(cells_in(formula), [0, 1])
        self.assertEqual(formula, ("least", [("cell", 1), ("cell", 0)]))


if __name__ == "__main__":
    unittest.main()
