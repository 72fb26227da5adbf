"""Points 29 to 32: held and tight ranks, what shows the greatest solution, and stages from above."""

import random
import unittest

from circlesettle.greatest import (
    flat_greatest, greatest_solution, held_ranks, shows_greatest, stages_from_above, tight_ranks,
)
from circlesettle.least import flat_least
from circlesettle.sheets import is_solution
from reference import (
    greatest_of_flat, greatest_of_sheet, held_by_rounds, least_of_flat, some_flat, some_sheet, stages_down,
    tight_by_rounds,
)

N = None
EXAMPLE = [("least", [(1, 0), (2, 0)]), ("greatest", [(0, -1)]), ("amount", 100), ("greatest", [(3, -1)])]


class TestHeldRanks(unittest.TestCase):
    def test_round_by_round(self):
        plain = [("least", [(4, 0), (1, 0)]), ("greatest", [(0, 0), (2, 5)]), ("least", [(2, 0), (3, 0)]),
                 ("amount", 7), ("greatest", [(4, -1)]), ("greatest", [(3, 0)]), ("greatest", [(5, 0), (2, 0), (3, 0)])]
        self.assertEqual(held_ranks(plain), [N, N, 1, 0, N, 1, 2])
        plain[4] = ("least", [(6, 0), (4, -1)])
        self.assertEqual(held_ranks(plain), [4, 5, 1, 0, 3, 1, 2])

    def test_amounts(self):
        self.assertEqual(held_ranks([("amount", 0), ("amount", N), ("amount", 9)]), [0, N, 0])

    def test_least_needs_one_and_greatest_all(self):
        plain = [("amount", 1), ("amount", N), ("least", [(1, 0), (0, 0)]), ("greatest", [(0, 0), (1, 0)]),
                 ("greatest", [(0, 0), (0, 5)])]
        self.assertEqual(held_ranks(plain), [0, N, 1, N, 1])

    def test_a_circle_that_nothing_holds(self):
        for shift in (-999, -1, 0, 1):
            for word in ("least", "greatest"):
                self.assertEqual(held_ranks([(word, [(1, shift)]), (word, [(0, shift)])]), [N, N])

    def test_a_rank_comes_after_an_earlier_round_alone(self):
        row = [("amount", 1)] + [("least", [(cell - 1, 0)]) for cell in range(1, 6)]
        self.assertEqual(held_ranks(row), [0, 1, 2, 3, 4, 5])
        row = [("greatest", [(cell + 1, 0)]) for cell in range(5)] + [("amount", 1)]
        self.assertEqual(held_ranks(row), [5, 4, 3, 2, 1, 0])
        self.assertEqual(held_ranks(row[:5] + [("amount", N)]), [N] * 6)

    def test_some_sheets(self):
        rng = random.Random(29)
        for _ in range(400):
            plain = some_flat(rng, rng.randint(1, 8), whens=False)
            ranks = held_ranks(plain)
            with self.subTest(plain=plain):
                self.assertEqual(ranks, held_by_rounds(plain))
                self.assertEqual([rank is None for rank in ranks], [amount is None for amount in greatest_of_flat(plain)])


class TestTightRanks(unittest.TestCase):
    def test_the_example_of_the_document(self):
        # Cell 1 is at the floor, cell 0 rests on it.
        self.assertEqual(tight_ranks(EXAMPLE, [0, 0, 100, N]), [2, 1, 0, N])
        # Another solution: cell 3 may rest at the floor as well.
        self.assertEqual(tight_ranks(EXAMPLE, [0, 0, 100, 0]), [2, 1, 0, 1])

    def test_round_by_round(self):
        plain = [("amount", 5), ("least", [(0, 1), (3, 0)]), ("greatest", [(1, 0), (0, 0)]), ("greatest", [(2, 1), (1, 1)]),
                 ("least", [(3, -9), (5, 0)]), ("amount", N), ("greatest", [(4, 0), (3, -8)])]
        x = greatest_of_flat(plain)
        self.assertEqual(x, [5, 6, 6, 7, 0, N, 0])
        self.assertEqual(tight_ranks(plain, x), [0, 1, 2, 3, 1, N, 2])

    def test_greatest_waits_for_all_tight_arcs_and_least_for_one(self):
        plain = [("amount", 4), ("greatest", [(0, 0)]), ("greatest", [(0, 0), (1, 0)]), ("least", [(0, 0), (2, 0)]),
                 ("greatest", [(0, 0), (1, -1)])]
        self.assertEqual(tight_ranks(plain, [4, 4, 4, 4, 4]), [0, 1, 2, 1, 1])

    def test_a_solution_that_is_not_the_greatest_has_cells_without_rank(self):
        plain = [("least", [(0, 0), (1, 0)]), ("amount", 9)]
        for amount in range(9):
            self.assertEqual(tight_ranks(plain, [amount, 9]), [N, 0])
        self.assertEqual(tight_ranks(plain, [9, 9]), [1, 0])

    def test_the_floor_of_least_and_of_greatest(self):
        plain = [("amount", 4), ("least", [(0, -5)]), ("least", [(0, -4)]), ("greatest", [(0, -5)]), ("greatest", [(3, 0), (0, -9)]),
                 ("least", [(3, 0), (0, -9)])]
        self.assertEqual(tight_ranks(plain, [4, 0, 0, 0, 0, 0]), [0, 1, 1, 1, 2, 1])

    def test_no_cell_in_the_first_round(self):
        self.assertEqual(tight_ranks([("greatest", [(0, -1)]), ("greatest", [(0, 0)])], [0, 0]), [1, 2])
        self.assertEqual(tight_ranks([("greatest", [(0, -1)])], [N]), [N])

    def test_amounts_of_any_size(self):
        self.assertEqual(tight_ranks([("greatest", [(0, 0)]), ("amount", 3)], [10 ** 30, 3]), [N, 0])

    def test_some_sheets(self):
        rng = random.Random(31)
        for _ in range(400):
            plain = some_flat(rng, rng.randint(1, 8), whens=False)
            x = greatest_of_flat(plain)
            with self.subTest(plain=plain):
                self.assertEqual(tight_ranks(plain, x), tight_by_rounds(plain, x))
                self.assertEqual([rank is None for rank in tight_ranks(plain, x)], [amount is None for amount in x])
                self.assertEqual(tight_ranks(plain, least_of_flat(plain)), tight_by_rounds(plain, least_of_flat(plain)))


class TestShowsGreatest(unittest.TestCase):
    PLAIN = [("amount", 4), ("least", [(2, 1), (0, 2)]), ("greatest", [(1, -1), (0, 1)]), ("greatest", [(4, -3)]),
             ("least", [(3, 0), (1, 0), (5, 0)]), ("greatest", [(5, -1), (0, 0)]), ("least", [(0, -9), (5, 0)]), ("amount", N)]
    X = [4, 6, 5, 0, 0, N, 0, N]
    HELD = [0, 1, 2, 3, 2, N, 1, N]
    TIGHT = [0, 1, 2, 1, 2, N, 1, N]

    def shown(self, x=None, held=None, tight=None, plain=None):
        return shows_greatest(plain or self.PLAIN, self.X if x is None else x, self.HELD if held is None else held,
                              self.TIGHT if tight is None else tight)

    def test_right_ones(self):
        self.assertEqual(greatest_of_flat(self.PLAIN), self.X)
        self.assertIs(self.shown(), True)
        self.assertIs(self.shown(held=held_ranks(self.PLAIN), tight=tight_ranks(self.PLAIN, self.X)), True)
        self.assertIs(self.shown(held=[5, 10, 20, 31, 30, N, 6, N], tight=[7, 8, 9, 50, 60, N, 0, N]), True)

    def test_ranks_of_endless_cells_do_not_count(self):
        self.assertIs(self.shown(held=[0, 1, 2, 3, 2, 0, 1, 99], tight=[0, 1, 2, 1, 2, 7, 1, 0]), True)

    def test_held_ranks_that_are_spoilt(self):
        for cell, value in [(0, N), (1, N), (6, N), (1, 0), (2, 1), (2, 0), (3, 2), (3, 0), (4, 1), (4, 0), (6, 0), (0, 1)]:
            held = list(self.HELD)
            held[cell] = value
            with self.subTest(cell=cell, value=value):
                self.assertIs(self.shown(held=held), False)

    def test_tight_ranks_that_are_spoilt(self):
        for cell, value in [(0, N), (1, N), (3, N), (1, 0), (2, 1), (2, 0), (4, 1), (4, 0), (0, 1), (3, 2)]:
            tight = list(self.TIGHT)
            tight[cell] = value
            with self.subTest(cell=cell, value=value):
                self.assertIs(self.shown(tight=tight), False)

    def test_cells_at_the_floor_need_no_lesser_tight_rank(self):
        for cell in (3, 6):
            tight = list(self.TIGHT)
            tight[cell] = 0
            self.assertIs(self.shown(tight=tight), True)

    def test_lists_of_another_length(self):
        for told in (self.X, self.HELD, self.TIGHT):
            name = {id(self.X): "x", id(self.HELD): "held", id(self.TIGHT): "tight"}[id(told)]
            for other in (told[:7], told + [N], told + [0], [], told * 2):
                with self.subTest(name=name, other=other):
                    self.assertIs(self.shown(**{name: other}), False)

    def test_amounts_that_are_spoilt(self):
        for cell in range(8):
            for value in (N, 0, 3, 9, 10 ** 30):
                if value != self.X[cell]:
                    x = list(self.X)
                    x[cell] = value
                    with self.subTest(cell=cell, value=value):
                        self.assertIs(self.shown(x=x), False)

    def test_a_lesser_solution(self):
        plain = [("least", [(0, 0), (1, 0)]), ("amount", 9)]
        self.assertIs(shows_greatest(plain, [9, 9], [1, 0], [1, 0]), True)
        for amount in (0, 5, 8):
            self.assertIs(shows_greatest(plain, [amount, 9], [1, 0], [1, 0]), False)

    def test_a_number_that_nothing_holds(self):
        plain = [("greatest", [(0, -1)])]
        self.assertIs(shows_greatest(plain, [N], [N], [N]), True)
        self.assertIs(shows_greatest(plain, [N], [3], [3]), True)
        self.assertIs(shows_greatest(plain, [0], [0], [0]), False)
        plain = [("least", [(1, -1), (2, 0)]), ("least", [(0, -1)]), ("amount", N)]
        self.assertIs(shows_greatest(plain, [0, 0, N], [1, 2, N], [1, 1, N]), False)

    def test_an_arc_to_an_endless_cell_does_not_hold(self):
        plain = [("least", [(1, 0), (2, 0)]), ("amount", N), ("amount", 3)]
        self.assertIs(shows_greatest(plain, [3, N, 3], [1, N, 0], [1, N, 0]), True)
        self.assertIs(shows_greatest(plain, [3, N, 3], [1, 0, 1], [1, N, 0]), False)

    def test_what_is_shown_is_so(self):
        rng = random.Random(30)
        shown = 0
        for _ in range(3000):
            plain = some_flat(rng, 3, most=2, whens=False)
            x = rng.choice([least_of_flat(plain), greatest_of_flat(plain)])
            held = held_ranks(plain) if rng.random() < 0.5 else [rng.choice([N, 0, 1, 2, 3]) for _ in plain]
            tight = tight_ranks(plain, x) if rng.random() < 0.5 else [rng.choice([N, 0, 1, 2, 3]) for _ in plain]
            if shows_greatest(plain, x, held, tight):
                shown += 1
                self.assertEqual(x, greatest_of_flat(plain))
        self.assertGreater(shown, 300)


class TestFlatGreatest(unittest.TestCase):
    def test_the_examples_of_the_document(self):
        self.assertEqual(flat_greatest(EXAMPLE), [0, 0, 100, N])
        self.assertEqual(flat_greatest([("least", [(1, 0), (2, 0)]), ("greatest", [(0, -1)]), ("amount", 9)]), [0, 0, 9])
        self.assertEqual(flat_greatest([("greatest", [(1, 0)]), ("greatest", [(0, -1)]), ("amount", 9)]), [N, N, 9])
        self.assertEqual(flat_greatest([("least", [(2, 0)]), ("greatest", [(0, -1)]), ("amount", 9)]), [9, 8, 9])

    def test_circles(self):
        for shifts, held, open_at in [((2, -1), [8, 6], [N, N]), ((2, -2), [8, 6], [N, N]), ((2, -3), [2, 0], [N, N]),
                                      ((-3, 2), [0, 2], [N, N]), ((0, 0), [6, 6], [N, N]), ((-4, -4), [0, 0], [N, N])]:
            with self.subTest(shifts=shifts):
                flat = [("greatest", [(1, shifts[0])]), ("least", [(0, shifts[1]), (2, 0)]), ("amount", 6)]
                self.assertEqual(flat_greatest(flat), held + [6])
                flat = [("greatest", [(1, shifts[0])]), ("greatest", [(0, shifts[1]), (2, 0)]), ("amount", 6)]
                self.assertEqual(flat_greatest(flat), open_at + [6])

    def test_conditions(self):
        flat = [("amount", 3), ("when", 0, 3, 2), ("amount", N), ("when", 0, 4, 2), ("when", 4, 9, 4), ("when", 3, 1, 0)]
        self.assertEqual(flat_greatest(flat), [3, N, N, 0, N, 0])

    def test_a_condition_that_closes_holds_a_circle(self):
        flat = [("least", [(1, -1), (2, 0)]), ("greatest", [(0, 0)]), ("when", 3, 2, 4), ("amount", 1), ("amount", N)]
        self.assertEqual(flat_greatest(flat), [0, 0, 0, 1, N])
        flat[3] = ("amount", 2)
        self.assertEqual(flat_greatest(flat), [N, N, N, 2, N])

    def test_some_sheets(self):
        rng = random.Random(32)
        for _ in range(500):
            flat = some_flat(rng, rng.randint(1, 9), most=rng.choice([1, 2, 4]), numbers=rng.choice([4, 30]))
            with self.subTest(flat=flat):
                self.assertEqual(flat_greatest(flat), greatest_of_flat(flat))


class TestStages(unittest.TestCase):
    def test_a_sheet_without_conditions_has_one_stage(self):
        self.assertEqual(stages_from_above(EXAMPLE), [([], [0, 0, 100, N])])

    def test_conditions_that_stay_open(self):
        flat = [("amount", 4), ("when", 0, 4, 0), ("when", 2, 5, 2)]
        self.assertEqual(stages_from_above(flat), [([1, 2], [4, 4, N])])

    def test_conditions_that_close_one_after_the_other(self):
        flat = [("amount", 4), ("when", 2, 1, 0), ("when", 3, 2, 0), ("when", 0, 5, 0), ("when", 0, 4, 0)]
        self.assertEqual(stages_from_above(flat), [
            ([1, 2, 3, 4], [4, 4, 4, 4, 4]), ([1, 2, 4], [4, 4, 4, 0, 4]), ([1, 4], [4, 4, 0, 0, 4]),
            ([4], [4, 0, 0, 0, 4])])

    def test_all_close(self):
        flat = [("when", 2, 3, 0), ("when", 2, 3, 1), ("amount", 2)]
        self.assertEqual(stages_from_above(flat), [([0, 1], [N, N, 2]), ([], [0, 0, 2])])

    def test_amounts_between_the_stages(self):
        flat = [("least", [(1, 0), (3, 9)]), ("greatest", [(0, -1), (4, 0)]), ("amount", 7), ("when", 2, 8, 2), ("when", 1, 50, 2)]
        self.assertEqual(stages_from_above(flat), stages_down(flat))
        self.assertEqual(stages_from_above(flat), [
            ([3, 4], [7, 7, 7, 7, 7]), ([], [0, 0, 7, 0, 0])])

    def test_some_sheets(self):
        rng = random.Random(33)
        most = 0
        for _ in range(500):
            flat = some_flat(rng, rng.randint(1, 9), most=rng.choice([1, 2]))
            stages = stages_from_above(flat)
            most = max(most, len(stages))
            with self.subTest(flat=flat):
                self.assertEqual(stages, stages_down(flat))
                self.assertEqual(stages[-1][1], flat_greatest(flat))
        self.assertGreater(most, 2)


class TestGreatestSolution(unittest.TestCase):
    def test_nested_formulas(self):
        sheet = [("least", [("more", ("more", ("cell", 0), 5), -3), ("greatest", [("amount", 20), ("cell", 1)])]),
                 ("when", 0, 20, ("least", [("more", ("cell", 0), 1), ("amount", 40)])),
                 ("more", ("more", ("cell", 2), -50), 4)]
        self.assertEqual(greatest_solution(sheet), [40, 40, N])
        self.assertEqual(greatest_of_sheet(sheet), [40, 40, N])

    def test_the_example_of_the_document_as_a_sheet(self):
        sheet = [("least", [("cell", 1), ("amount", 100)]), ("more", ("cell", 0), -1), ("more", ("cell", 2), -1)]
        self.assertEqual(greatest_solution(sheet), [0, 0, N])

    def test_some_sheets(self):
        rng = random.Random(34)
        for _ in range(200):
            sheet = some_sheet(rng, rng.randint(1, 5), rng.randint(0, 4), most=2)
            x = greatest_solution(sheet)
            with self.subTest(sheet=sheet):
                self.assertEqual(x, greatest_of_sheet(sheet))
                self.assertTrue(is_solution(sheet, x))

    def test_where_both_solutions_are_the_same(self):
        flat = [("least", [(1, 2), (2, 0)]), ("greatest", [(0, -3), (3, 0)]), ("amount", 8), ("amount", 1)]
        self.assertEqual(flat_greatest(flat), [3, 1, 8, 1])
        self.assertEqual(flat_least(flat), [3, 1, 8, 1])


if __name__ == "__main__":
    unittest.main()
