"""Points 5, 7, 8, 19 to 22: ranks, least solutions, and stages from below."""

import random
import unittest

from circlesettle.flat import flat_form, flat_values, is_flat_solution
from circlesettle.greatest import flat_greatest, greatest_solution
from circlesettle.least import are_ranks, flat_least, least_ranks, least_solution, stages_from_below
from circlesettle.sheets import is_solution
from reference import greatest_of_flat, least_of_flat, least_of_sheet, some_flat, some_sheet, stages_up

GREAT = 10 ** 30


class TestAreRanks(unittest.TestCase):
    # x is [4, 5, 5, 0, None, 7, 0]
    PLAIN = [("amount", 4), ("greatest", [(0, 1), (1, 0), (3, 0)]), ("least", [(1, 0), (0, 1), (4, 0)]),
             ("least", [(0, -9), (3, 0)]), ("greatest", [(4, 1)]), ("least", [(2, 2), (0, 9)]), ("greatest", [(6, 0)])]
    X = [4, 5, 5, 0, None, 7, 0]
    RANKS = [0, 1, 2, 0, None, 3, 0]

    def are(self, ranks, x=None, plain=None):
        return are_ranks(plain or self.PLAIN, x or self.X, ranks)

    def test_right_ones(self):
        self.assertTrue(is_flat_solution(self.PLAIN, self.X))
        self.assertIs(self.are(self.RANKS), True)
        self.assertIs(self.are([10, 11, 12, 5, None, 13, 99]), True)
        self.assertIs(self.are([0, 1, 9, 0, None, GREAT, 0]), True)

    def test_too_few_and_too_many(self):
        self.assertIs(self.are(self.RANKS[:6]), False)
        self.assertIs(self.are(self.RANKS + [0]), False)
        self.assertIs(self.are(self.RANKS + [None]), False)
        self.assertIs(self.are([]), False)

    def test_none_at_a_cell_with_a_number(self):
        for cell in (0, 1, 2, 3, 5, 6):
            ranks = list(self.RANKS)
            ranks[cell] = None
            self.assertIs(self.are(ranks), False)

    def test_a_number_at_a_cell_with_none(self):
        self.assertIs(self.are([0, 1, 2, 0, 0, 3, 0]), False)
        self.assertIs(self.are([0, 1, 2, 0, -1, 3, 0]), False)

    def test_a_number_below_0(self):
        for cell in (0, 3, 6):
            ranks = list(self.RANKS)
            ranks[cell] = -1
            self.assertIs(self.are(ranks), False)

    def test_a_rank_that_is_not_less(self):
        self.assertIs(self.are([1, 1, 2, 0, None, 3, 0]), False)
        self.assertIs(self.are([2, 1, 2, 0, None, 3, 0]), False)
        self.assertIs(self.are([0, 1, 1, 0, None, 3, 0]), False)
        self.assertIs(self.are([0, 2, 1, 0, None, 3, 0]), False)
        self.assertIs(self.are([0, 1, 2, 0, None, 2, 0]), False)

    def test_greatest_needs_one_tight_arc_and_least_needs_all(self):
        plain = [("amount", 3), ("greatest", [(0, 0), (1, 0)]), ("least", [(0, 0), (2, 0)])]
        self.assertIs(self.are([0, 1, 1], [3, 3, 3], plain), False)
        plain[2] = ("least", [(0, 0), (1, 0)])
        self.assertIs(self.are([0, 1, 2], [3, 3, 3], plain), True)
        self.assertIs(self.are([0, 1, 1], [3, 3, 3], plain), False)
        self.assertIs(self.are([0, 5, 2], [3, 3, 3], plain), False)

    def test_arcs_that_are_not_tight_do_not_count(self):
        plain = [("amount", 3), ("greatest", [(2, 0), (0, 0)]), ("amount", 1), ("least", [(0, 0), (4, 0)]), ("amount", 4)]
        self.assertIs(self.are([2, 3, 0, 3, 9], [3, 3, 1, 3, 4], plain), True)
        self.assertIs(self.are([2, 1, 0, 3, 9], [3, 3, 1, 3, 4], plain), False)

    def test_the_amount_0_needs_no_lesser_rank(self):
        plain = [("greatest", [(0, 0)]), ("least", [(0, 0), (2, -5)]), ("amount", 5), ("amount", 0)]
        self.assertIs(self.are([0, 0, 0, 0], [0, 0, 5, 0], plain), True)
        self.assertIs(self.are([0, 0, 7, 0], [0, 0, 5, 0], plain), True)

    def test_a_circle_has_no_ranks(self):
        plain = [("greatest", [(1, 0)]), ("least", [(0, 0)])]
        for ranks in ([0, 0], [0, 1], [1, 0]):
            self.assertIs(self.are(ranks, [3, 3], plain), False)
            self.assertIs(self.are(ranks, [0, 0], plain), True)
        self.assertIs(self.are([None, None], [None, None], plain), True)
        self.assertIs(self.are([0, None], [None, None], plain), False)

    def test_amounts_of_any_size(self):
        plain = [("greatest", [(0, 0)])]
        self.assertIs(self.are([3], [GREAT], plain), False)


class TestLeastRanks(unittest.TestCase):
    def test_some_sheets(self):
        rng = random.Random(20)
        differing = 0
        for _ in range(400):
            plain = some_flat(rng, rng.randint(1, 6), whens=False)
            x = least_of_flat(plain)
            y = greatest_of_flat(plain)
            ranks = least_ranks(plain, x)
            with self.subTest(plain=plain):
                self.assertIs(are_ranks(plain, x, ranks), True)
                self.assertEqual([rank is None for rank in ranks], [amount is None for amount in x])
                # Of all solutions with the same cells endless only the least one has ranks.
                if x != y and [amount is None for amount in x] == [amount is None for amount in y]:
                    differing += 1
                    for _ in range(20):
                        guess = [None if amount is None else rng.randint(0, 5) for amount in y]
                        self.assertIs(are_ranks(plain, y, guess), False)
        self.assertGreater(differing, 3)

    def test_a_row(self):
        plain = [("amount", 1)] + [("least", [(cell - 1, 1), (cell, 0)]) for cell in range(1, 5)]
        x = flat_least(plain)
        self.assertEqual(x, [1, 0, 0, 0, 0])
        plain = [("amount", 1)] + [("greatest", [(cell - 1, 1), (cell, 0)]) for cell in range(1, 5)]
        self.assertEqual(flat_least(plain), [1, 2, 3, 4, 5])
        self.assertIs(are_ranks(plain, [1, 2, 3, 4, 5], least_ranks(plain, [1, 2, 3, 4, 5])), True)


class TestFlatLeast(unittest.TestCase):
    def test_circles(self):
        for shifts, alone, more, less in [
            ((2, -1), [None, None], [None, None], [8, 6]),
            ((2, -2), [2, 0], [8, 6], [2, 0]),
            ((2, -3), [2, 0], [8, 6], [2, 0]),
            ((-3, 2), [0, 2], [3, 6], [0, 2]),
            ((-2, 2), [0, 2], [4, 6], [0, 2]),
            ((0, 0), [0, 0], [6, 6], [0, 0]),
            ((-4, -4), [0, 0], [2, 6], [0, 0]),
        ]:
            with self.subTest(shifts=shifts):
                self.assertEqual(flat_least([("greatest", [(1, shifts[0])]), ("least", [(0, shifts[1])])]), alone)
                flat = [("greatest", [(1, shifts[0])]), ("greatest", [(0, shifts[1]), (2, 0)]), ("amount", 6)]
                self.assertEqual(flat_least(flat), more + [6])
                flat = [("greatest", [(1, shifts[0])]), ("least", [(0, shifts[1]), (2, 0)]), ("amount", 6)]
                self.assertEqual(flat_least(flat), less + [6])

    def test_where_the_least_and_the_greatest_differ(self):
        for flat, least, greatest in [
            ([("greatest", [(0, 0)])], [0], [None]),
            ([("greatest", [(0, -7)])], [0], [None]),
            ([("least", [(0, 0), (1, 0)]), ("amount", 9)], [0, 9], [9, 9]),
            ([("when", 0, 5, 1), ("amount", 8)], [0, 8], [8, 8]),
            ([("when", 0, 5, 0)], [0], [None]),
            ([("greatest", [(0, 1)])], [None], [None]),
            ([("least", [(0, 1), (1, 0)]), ("amount", 9)], [9, 9], [9, 9]),
        ]:
            with self.subTest(flat=flat):
                self.assertEqual(flat_least(flat), least)
                self.assertEqual(flat_greatest(flat), greatest)

    def test_conditions(self):
        flat = [("amount", 4), ("when", 0, 4, 2), ("amount", None), ("when", 0, 5, 2), ("when", 1, 999, 0)]
        self.assertEqual(flat_least(flat), [4, None, None, 0, 4])

    def test_conditions_that_would_only_open_one_another_stay_closed(self):
        flat = [("amount", 9), ("when", 2, 3, 0), ("when", 1, 3, 0), ("when", 3, 1, 3)]
        self.assertEqual(flat_least(flat), [9, 0, 0, 0])
        self.assertEqual(flat_greatest(flat), [9, 9, 9, None])

    def test_a_condition_makes_a_circle_that_gains(self):
        flat = [("greatest", [(1, 1), (2, 0)]), ("when", 0, 5, 0), ("amount", 4)]
        self.assertEqual(flat_least(flat), [4, 0, 4])
        flat[2] = ("amount", 5)
        self.assertEqual(flat_least(flat), [None, None, 5])

    def test_some_sheets(self):
        rng = random.Random(5)
        for _ in range(500):
            flat = some_flat(rng, rng.randint(1, 9), most=rng.choice([1, 2, 4]))
            with self.subTest(flat=flat):
                self.assertEqual(flat_least(flat), least_of_flat(flat))


class TestStages(unittest.TestCase):
    def test_a_sheet_without_conditions_has_one_stage(self):
        self.assertEqual(stages_from_below([("amount", 4)]), [([], [4])])

    def test_conditions_that_stay_closed(self):
        self.assertEqual(stages_from_below([("amount", 4), ("when", 0, 5, 0)]), [([], [4, 0])])

    def test_conditions_that_open_one_after_the_other(self):
        flat = [("amount", 4), ("when", 2, 1, 0), ("when", 3, 2, 0), ("when", 0, 4, 0), ("when", 1, 5, 0)]
        self.assertEqual(stages_from_below(flat), [
            ([], [4, 0, 0, 0, 0]), ([3], [4, 0, 0, 4, 0]), ([2, 3], [4, 0, 4, 4, 0]), ([1, 2, 3], [4, 4, 4, 4, 0])])

    def test_several_open_at_once(self):
        flat = [("amount", None), ("when", 0, 999, 0), ("when", 0, 1, 3), ("amount", 2), ("when", 2, 2, 3)]
        self.assertEqual(stages_from_below(flat), [
            ([], [None, 0, 0, 2, 0]), ([1, 2], [None, None, 2, 2, 0]), ([1, 2, 4], [None, None, 2, 2, 2])])

    def test_amounts_between_the_stages(self):
        flat = [("least", [(0, 1), (1, 0)]), ("greatest", [(2, 0), (3, 0)]), ("amount", 3), ("when", 0, 3, 4), ("amount", 8)]
        self.assertEqual(stages_from_below(flat), [([], [3, 3, 3, 0, 8]), ([3], [8, 8, 3, 8, 8])])

    def test_some_sheets(self):
        rng = random.Random(22)
        most = 0
        for _ in range(500):
            flat = some_flat(rng, rng.randint(1, 9), most=rng.choice([1, 2]))
            stages = stages_from_below(flat)
            most = max(most, len(stages))
            with self.subTest(flat=flat):
                self.assertEqual(stages, stages_up(flat))
                self.assertEqual(stages[-1][1], flat_least(flat))
                self.assertEqual(flat_values(flat, stages[-1][1]), stages[-1][1])
        self.assertGreater(most, 2)


class TestLeastSolution(unittest.TestCase):
    def test_the_example_of_the_document(self):
        sheet = [("greatest", [("more", ("cell", 1), 1), ("amount", 3)]), ("least", [("cell", 0), ("amount", 7)]),
                 ("more", ("cell", 2), 2)]
        self.assertEqual(least_solution(sheet), [8, 7, None])

    def test_nested_formulas(self):
        sheet = [("least", [("more", ("more", ("cell", 0), 5), -3), ("greatest", [("amount", 20), ("cell", 1)])]),
                 ("when", 0, 20, ("least", [("more", ("cell", 0), 1), ("amount", 40)])),
                 ("more", ("more", ("cell", 0), -50), 4)]
        self.assertEqual(least_solution(sheet), [40, 40, 4])
        self.assertEqual(least_of_sheet(sheet), [40, 40, 4])

    def test_the_floor_between_shifts(self):
        sheet = [("greatest", [("more", ("more", ("cell", 0), -5), 5), ("amount", 2)])]
        self.assertEqual(least_solution(sheet), [5])
        self.assertEqual(greatest_solution(sheet), [None])

    def test_the_deepest_parts(self):
        formula = ("cell", 0)
        for shift in (1, 2, 3, 4):
            formula = ("more", formula, shift)
        self.assertEqual(least_solution([("least", [formula, ("amount", 999)])]), [999])
        self.assertEqual(least_solution([formula]), [None])

    def test_some_sheets(self):
        rng = random.Random(8)
        for _ in range(200):
            sheet = some_sheet(rng, rng.randint(1, 5), rng.randint(0, 4), most=2)
            x = least_solution(sheet)
            with self.subTest(sheet=sheet):
                self.assertEqual(x, least_of_sheet(sheet))
                self.assertTrue(is_solution(sheet, x))
                self.assertEqual(flat_least(flat_form(sheet))[:len(sheet)], x)


if __name__ == "__main__":
    unittest.main()
