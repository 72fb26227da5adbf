"""Point 7: flat sheets, the values of flat formulas, arcs, and solutions."""

import copy
import random
import unittest

from circlesettle.flat import arcs_of, flat_values, is_flat_solution
from reference import flat_round, some_flat

GREAT = 10 ** 60


class TestFlatValues(unittest.TestCase):
    def value(self, formula, x):
        return flat_values([formula], x)[0]

    def test_amount(self):
        self.assertEqual(flat_values([("amount", 5), ("amount", 0), ("amount", None)], [1, 2, 3]), [5, 0, None])

    def test_arcs_with_shifts_of_either_sign(self):
        for word in ("least", "greatest"):
            for amount, shift, expected in [(4, 3, 7), (4, -3, 1), (4, -4, 0), (4, -5, 0), (0, -1, 0), (0, 0, 0),
                                            (None, 3, None), (None, -3, None), (0, 999, 999), (999, -999, 0)]:
                with self.subTest(word=word, amount=amount, shift=shift):
                    self.assertEqual(self.value((word, [(0, shift)]), [amount]), expected)

    def test_least(self):
        formula = ("least", [(0, 1), (1, -1), (2, 0)])
        self.assertEqual(self.value(formula, [3, 9, 8]), 4)
        self.assertEqual(self.value(formula, [9, 3, 8]), 2)
        self.assertEqual(self.value(formula, [9, 0, 8]), 0)
        self.assertEqual(self.value(formula, [None, None, 8]), 8)
        self.assertEqual(self.value(formula, [None, 9, None]), 8)
        self.assertIsNone(self.value(formula, [None, None, None]))

    def test_greatest(self):
        formula = ("greatest", [(0, 1), (1, -1), (2, 0)])
        self.assertEqual(self.value(formula, [3, 9, 8]), 8)
        self.assertEqual(self.value(formula, [9, 3, 8]), 10)
        self.assertEqual(self.value(formula, [0, 0, 0]), 1)
        self.assertIsNone(self.value(formula, [3, None, 8]))
        self.assertIsNone(self.value(formula, [3, 9, None]))

    def test_the_floor_in_least_and_greatest(self):
        self.assertEqual(self.value(("least", [(0, -5), (0, -9)]), [2]), 0)
        self.assertEqual(self.value(("greatest", [(0, -5), (0, -9)]), [2]), 0)
        self.assertEqual(self.value(("greatest", [(0, -5), (0, -1)]), [2]), 1)

    def test_six_arcs_and_the_same_cell_in_several(self):
        arcs = [(0, 5), (1, 0), (0, -1), (1, 3), (0, 0), (1, -9)]
        self.assertEqual(self.value(("least", arcs), [4, 6]), 0)
        self.assertEqual(self.value(("greatest", arcs), [4, 6]), 9)
        self.assertEqual(self.value(("least", arcs[:5]), [4, 6]), 3)

    def test_when_below_at_and_above_its_threshold(self):
        formula = ("when", 0, 5, 1)
        self.assertEqual([self.value(formula, [amount, 8]) for amount in (0, 4, 5, 6, GREAT)], [0, 0, 8, 8, 8])

    def test_when_at_the_least_threshold(self):
        self.assertEqual([self.value(("when", 0, 1, 1), [amount, 8]) for amount in (0, 1)], [0, 8])

    def test_when_with_endless(self):
        self.assertEqual(self.value(("when", 0, 999, 1), [None, 8]), 8)
        self.assertIsNone(self.value(("when", 0, 999, 1), [None, None]))
        self.assertEqual(self.value(("when", 0, 999, 1), [998, None]), 0)
        self.assertIsNone(self.value(("when", 0, 999, 1), [999, None]))
        self.assertIsNone(self.value(("when", 0, 5, 0), [None]))

    def test_when_of_itself(self):
        self.assertEqual([self.value(("when", 0, 5, 0), [amount]) for amount in (4, 5)], [0, 5])

    def test_amounts_of_any_size(self):
        self.assertEqual(self.value(("greatest", [(0, 1)]), [GREAT]), GREAT + 1)
        self.assertEqual(self.value(("least", [(0, -1), (1, 0)]), [GREAT, None]), GREAT - 1)

    def test_all_formulas_see_the_same_amounts(self):
        self.assertEqual(flat_values([("greatest", [(1, 0)]), ("greatest", [(0, 0)])], [3, 8]), [8, 3])

    def test_some_sheets(self):
        rng = random.Random(7)
        for _ in range(300):
            flat = some_flat(rng, 6)
            x = [rng.choice([None, 0, 1, 2, 3, 4, 5]) for _ in flat]
            self.assertEqual(flat_values(flat, x), flat_round(flat, x))

    def test_600_cells(self):
        flat = [("amount", 1)] + [("greatest", [(cell - 1, 1)]) for cell in range(1, 600)]
        self.assertEqual(flat_values(flat, list(range(600))), [1] + list(range(1, 600)))


class TestIsFlatSolution(unittest.TestCase):
    FLAT = [("least", [(0, 1), (1, 0)]), ("amount", 5), ("when", 0, 3, 0), ("greatest", [(3, 0)])]

    def test_amounts_that_are_a_solution(self):
        for last in (0, 4, None):
            self.assertIs(is_flat_solution(self.FLAT, [5, 5, 5, last]), True)
        self.assertIs(is_flat_solution([("greatest", [(0, 1)])], [None]), True)
        self.assertIs(is_flat_solution([("greatest", [(0, -1)])], [0]), True)
        self.assertIs(is_flat_solution([("greatest", [(0, -1)])], [None]), True)
        self.assertIs(is_flat_solution([("greatest", [(0, 0)])], [GREAT]), True)

    def test_amounts_that_are_none(self):
        for x in ([4, 5, 4, 0], [5, 4, 5, 0], [5, 5, 0, 0], [None, 5, None, 0], [5, None, 5, 0]):
            with self.subTest(x=x):
                self.assertIs(is_flat_solution(self.FLAT, x), False)
        self.assertIs(is_flat_solution([("greatest", [(0, 1)])], [GREAT]), False)
        self.assertIs(is_flat_solution([("greatest", [(0, -1)])], [1]), False)


class TestArcsOf(unittest.TestCase):
    FLAT = [("amount", 3), ("least", [(0, 2), (2, -1)]), ("greatest", [(1, 0), (1, 0)]), ("when", 0, 5, 2),
            ("when", 4, 5, 4), ("amount", None)]

    def test_the_arcs_of_each_kind(self):
        self.assertEqual([arcs_of(self.FLAT, cell) for cell in range(6)],
                         [[], [(0, 2), (2, -1)], [(1, 0), (1, 0)], [(2, 0)], [(4, 0)], []])

    def test_changing_the_answer_changes_nothing(self):
        flat = copy.deepcopy(self.FLAT)
        for cell in range(6):
            arcs_of(flat, cell).append((9, 9))
        self.assertEqual(flat, self.FLAT)
        self.assertEqual(arcs_of(flat, 1), [(0, 2), (2, -1)])

    def test_values_leave_what_is_handed_in(self):
        flat = copy.deepcopy(self.FLAT)
        x = [3, 5, 5, 0, 0, None]
        flat_values(flat, x).clear()
        is_flat_solution(flat, x)
        self.assertEqual((flat, x), (self.FLAT, [3, 5, 5, 0, 0, None]))


if __name__ == "__main__":
    unittest.main()
