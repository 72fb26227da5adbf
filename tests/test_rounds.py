"""Points 14 to 18: rounds, when they settle, their waves, low and high amounts, and the bound."""

import random
import unittest

from circlesettle.rounds import (
    bound_of, first_round, from_above, from_below, is_high, is_low, one_round, settled_from_above,
    settled_from_below, waves_from_above, waves_from_below,
)
from reference import flat_round, greatest_of_flat, least_of_flat, some_flat

EXAMPLE = [("least", [(1, 0), (2, 0)]), ("greatest", [(0, 2)]), ("amount", 5)]
RING = [("greatest", [(1, 0)]), ("greatest", [(0, 1)])]
ROW = [("amount", 7)] + [("greatest", [(cell - 1, 0)]) for cell in range(1, 6)]
COUNTER = [("least", [(0, 1), (1, 0)]), ("amount", 150)]
DOWNWARDS = [("least", [(0, -1), (1, 0)]), ("amount", 150)]


class TestRounds(unittest.TestCase):
    def test_one_round(self):
        self.assertEqual(one_round(EXAMPLE, [0, 0, 0]), [0, 2, 5])
        self.assertEqual(one_round(EXAMPLE, [None, None, None]), [None, None, 5])
        self.assertEqual(one_round([("when", 1, 3, 0), ("amount", None)], [4, 2]), [0, None])
        self.assertEqual(one_round([("when", 1, 3, 0), ("amount", None)], [10 ** 40, 3]), [10 ** 40, None])

    def test_the_example_of_the_document(self):
        self.assertEqual(from_below(EXAMPLE, rounds=2), [2, 2, 5])
        self.assertEqual(from_above(EXAMPLE, rounds=2), [5, None, 5])

    def test_no_round(self):
        self.assertEqual(from_below(EXAMPLE, rounds=0), [0, 0, 0])
        self.assertEqual(from_above(EXAMPLE, rounds=0), [None, None, None])
        self.assertEqual(from_below([("amount", None)], rounds=0), [0])

    def test_one_round_and_several(self):
        self.assertEqual([from_below(EXAMPLE, rounds=many) for many in range(1, 7)],
                         [[0, 2, 5], [2, 2, 5], [2, 4, 5], [4, 4, 5], [4, 6, 5], [5, 6, 5]])
        self.assertEqual([from_above(EXAMPLE, rounds=many) for many in range(1, 5)],
                         [[None, None, 5], [5, None, 5], [5, 7, 5], [5, 7, 5]])

    def test_200_rounds(self):
        self.assertEqual(from_below(RING, rounds=200), [100, 100])
        self.assertEqual(from_below(RING, rounds=199), [99, 100])
        self.assertEqual(from_below(COUNTER, rounds=200), [150, 150])
        self.assertEqual(from_above(DOWNWARDS, rounds=100), [150 - 98, 150])
        self.assertEqual(from_above(DOWNWARDS, rounds=200), [0, 150])
        self.assertEqual(from_above(RING, rounds=200), [None, None])

    def test_conditions_in_rounds(self):
        flat = [("amount", 3), ("when", 0, 3, 0), ("when", 1, 4, 0)]
        self.assertEqual([from_below(flat, rounds=many) for many in range(3)], [[0, 0, 0], [3, 0, 0], [3, 3, 0]])
        self.assertEqual([from_above(flat, rounds=many) for many in range(4)],
                         [[None] * 3, [3, None, None], [3, 3, 3], [3, 3, 0]])

    def test_some_sheets_come_to_their_solutions(self):
        rng = random.Random(14)
        for _ in range(200):
            flat = some_flat(rng, 5, most=2)
            x = [0] * 5
            y = [None] * 5
            for many in range(30):
                self.assertEqual(from_below(flat, rounds=many), x)
                self.assertEqual(from_above(flat, rounds=many), y)
                x, y = flat_round(flat, x), flat_round(flat, y)
            self.assertEqual(from_above(flat, rounds=200), greatest_of_flat(flat))


class TestSettled(unittest.TestCase):
    def test_at_once(self):
        flat = [("greatest", [(0, 0)]), ("greatest", [(0, -3)])]
        self.assertEqual(settled_from_below(flat, rounds=0), 0)
        self.assertEqual(settled_from_above(flat, rounds=0), 0)
        self.assertEqual(settled_from_below(flat, rounds=200), 0)
        self.assertEqual(settled_from_above(flat, rounds=200), 0)

    def test_after_one_round(self):
        self.assertEqual(settled_from_below([("amount", 4)], rounds=1), 1)
        self.assertEqual(settled_from_above([("amount", 4)], rounds=1), 1)
        self.assertEqual(settled_from_below([("amount", None)], rounds=5), 1)
        self.assertEqual(settled_from_above([("amount", None)], rounds=5), 0)

    def test_the_told_number_is_enough_or_one_too_small(self):
        for flat, below, above in [(EXAMPLE, 7, 3), (ROW, 6, 6), (COUNTER, 151, 2), (DOWNWARDS, 1, 152)]:
            with self.subTest(flat=flat):
                for function, many in [(settled_from_below, below), (settled_from_above, above)]:
                    self.assertEqual(function(flat, rounds=many), many)
                    self.assertEqual(function(flat, rounds=200), many)
                    self.assertIsNone(function(flat, rounds=many - 1))
                    self.assertIsNone(function(flat, rounds=0))

    def test_never_from_below(self):
        self.assertIsNone(settled_from_below(RING, rounds=200))
        self.assertEqual(settled_from_above(RING, rounds=200), 0)

    def test_late(self):
        flat = [("least", [(0, 1), (1, 0)]), ("amount", 199)]
        self.assertEqual(settled_from_below(flat, rounds=200), 200)
        self.assertIsNone(settled_from_below(flat, rounds=199))
        flat = [("least", [(0, 1), (1, 0)]), ("amount", 200)]
        self.assertIsNone(settled_from_below(flat, rounds=200))


class TestWaves(unittest.TestCase):
    def test_no_round(self):
        self.assertEqual(waves_from_below(EXAMPLE, rounds=0), [])
        self.assertEqual(waves_from_above(EXAMPLE, rounds=0), [])

    def test_waves_of_several_rounds(self):
        self.assertEqual(waves_from_below(EXAMPLE, rounds=9), [[1, 2], [0], [1], [0], [1], [0], [1], [], []])
        self.assertEqual(waves_from_above(EXAMPLE, rounds=5), [[2], [0], [1], [], []])

    def test_cells_are_ascending(self):
        flat = [("greatest", [(3, 0)]), ("greatest", [(3, 1)]), ("amount", 1), ("amount", 2)]
        self.assertEqual(waves_from_below(flat, rounds=3), [[1, 2, 3], [0, 1], []])
        self.assertEqual(waves_from_above(flat, rounds=3), [[2, 3], [0, 1], []])

    def test_empty_waves_alone(self):
        self.assertEqual(waves_from_above(RING, rounds=3), [[], [], []])
        self.assertEqual(waves_from_below([("amount", 0)], rounds=2), [[], []])

    def test_200_rounds(self):
        waves = waves_from_below(RING, rounds=200)
        self.assertEqual(waves, [[1], [0]] * 100)


class TestFirstRound(unittest.TestCase):
    def test_a_number(self):
        for amount, first in [(1, 2), (2, 2), (3, 4), (4, 4), (5, 6)]:
            with self.subTest(amount=amount):
                self.assertEqual(first_round(EXAMPLE, cell=0, amount=amount, rounds=200), first)
                self.assertEqual(first_round(EXAMPLE, cell=0, amount=amount, rounds=first), first)
                self.assertIsNone(first_round(EXAMPLE, cell=0, amount=amount, rounds=first - 1))

    def test_0(self):
        for cell in range(3):
            self.assertEqual(first_round(EXAMPLE, cell=cell, amount=0, rounds=0), 0)

    def test_an_amount_that_is_never_reached(self):
        self.assertIsNone(first_round(EXAMPLE, cell=0, amount=6, rounds=200))
        self.assertIsNone(first_round(EXAMPLE, cell=0, amount=None, rounds=200))
        self.assertIsNone(first_round(RING, cell=0, amount=None, rounds=200))

    def test_endless(self):
        flat = [("greatest", [(1, -5)]), ("amount", None)]
        self.assertEqual(first_round(flat, cell=1, amount=None, rounds=3), 1)
        self.assertEqual(first_round(flat, cell=0, amount=None, rounds=3), 2)
        self.assertEqual(first_round(flat, cell=0, amount=999, rounds=3), 2)
        self.assertIsNone(first_round(flat, cell=0, amount=None, rounds=1))

    def test_a_cell_that_goes_on_growing(self):
        self.assertEqual(first_round(RING, cell=0, amount=100, rounds=200), 200)
        self.assertIsNone(first_round(RING, cell=0, amount=101, rounds=200))


class TestLowAndHigh(unittest.TestCase):
    def check(self, flat, x, low, high):
        self.assertIs(is_low(flat, x), low)
        self.assertIs(is_high(flat, x), high)

    def test_amounts(self):
        self.check(EXAMPLE, [0, 0, 0], True, False)
        self.check(EXAMPLE, [2, 4, 5], True, False)
        self.check(EXAMPLE, [5, 7, 5], True, True)
        self.check(EXAMPLE, [6, 8, 5], False, True)
        self.check(EXAMPLE, [None, None, None], False, True)
        self.check(EXAMPLE, [0, 9, 5], False, False)

    def test_amounts_of_any_size_and_endless(self):
        great = 10 ** 50
        self.check([("greatest", [(0, 1)])], [great], True, False)
        self.check([("greatest", [(0, -1)])], [great], False, True)
        self.check([("greatest", [(0, 0)])], [great], True, True)
        self.check([("greatest", [(0, 1)])], [None], True, True)
        self.check([("amount", 3)], [None], False, True)
        self.check([("amount", None)], [3], True, False)

    def test_some_sheets(self):
        rng = random.Random(16)
        for _ in range(400):
            flat = some_flat(rng, 4)
            x = [rng.choice([None, 0, 1, 2, 3]) for _ in flat]
            after = flat_round(flat, x)
            self.assertEqual(is_low(flat, x) and is_high(flat, x), after == x)
            if is_low(flat, x):
                self.assertTrue(all(b is None or (a is not None and a <= b) for a, b in zip(x, greatest_of_flat(flat))))
            if is_high(flat, x):
                self.assertTrue(all(b is None or (a is not None and a <= b) for a, b in zip(least_of_flat(flat), x)))


class TestBound(unittest.TestCase):
    def test_with_amounts_and_shifts(self):
        self.assertEqual(bound_of(EXAMPLE), 5 + 3 * 2)
        self.assertEqual(bound_of([("amount", 4), ("amount", 9), ("least", [(0, 3), (1, 7), (0, -8)])]), 9 + 3 * 7)

    def test_without_amount_cells(self):
        self.assertEqual(bound_of(RING), 2)

    def test_none_among_the_amounts(self):
        self.assertEqual(bound_of([("amount", None), ("amount", 4)]), 4)
        self.assertEqual(bound_of([("amount", None)]), 0)
        self.assertEqual(bound_of([("amount", None), ("greatest", [(0, 3)])]), 6)

    def test_no_shift_above_0(self):
        self.assertEqual(bound_of([("amount", 4), ("least", [(0, -3), (1, 0)])]), 4)
        self.assertEqual(bound_of([("greatest", [(0, -3)])]), 0)

    def test_the_numbers_of_conditions_do_not_count(self):
        self.assertEqual(bound_of([("when", 0, 500, 1), ("amount", 2)]), 2)

    def test_600_cells(self):
        flat = [("amount", 999)] + [("greatest", [(cell - 1, 999)]) for cell in range(1, 600)]
        self.assertEqual(bound_of(flat), 999 + 600 * 999)


if __name__ == "__main__":
    unittest.main()
