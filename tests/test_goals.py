"""Points 44 to 47: inputs, needs of goals, answers of cells, and checks of goals that are missed."""

import random
import unittest

from circlesettle.errors import NotInput
from circlesettle.goals import answers, is_missed, miss_of, need, need_in_greatest, set_input
from circlesettle.greatest import flat_greatest
from circlesettle.least import flat_least
from circlesettle.rounds import is_high
from reference import flat_round, greatest_of_flat, least_of_flat, some_flat

N = None
EXAMPLE = [("amount", 0), ("greatest", [(0, -2), (2, 0)]), ("least", [(1, 1), (0, 0)])]
# Cell 3 opens at 7 and lets 20 through; cell 4 is the sum of it all.
OPENS = [("amount", 3), ("least", [(0, 2)]), ("amount", 20), ("when", 1, 7, 2), ("greatest", [(3, 1), (0, 0)])]
# A circle that gains without end as soon as the input is at least 4.
JUMPS = [("amount", 1), ("greatest", [(2, 1), (3, 0)]), ("when", 0, 4, 1), ("least", [(0, 0), (4, 0)]), ("amount", 2)]


def with_input(flat, cell, amount):
    return flat[:cell] + [("amount", amount)] + flat[cell + 1:]


def need_by_trying(flat, input_cell, cell, goal, solve, most):
    for number in range(most + 1):
        amount = solve(with_input(flat, input_cell, number))[cell]
        if amount is None or amount >= goal:
            return number
    return None


class TestSetInput(unittest.TestCase):
    def test_amounts_of_any_size(self):
        for amount in (0, 1, 999, 1000, 10 ** 40, N):
            self.assertEqual(set_input(EXAMPLE, 0, amount), [("amount", amount)] + EXAMPLE[1:])
            self.assertEqual(set_input(OPENS, 2, amount), OPENS[:2] + [("amount", amount)] + OPENS[3:])

    def test_the_same_amount(self):
        self.assertEqual(set_input(OPENS, 0, 3), OPENS)

    def test_an_input_that_was_endless(self):
        self.assertEqual(set_input([("amount", N)], 0, 5), [("amount", 5)])

    def test_amounts_grow_with_the_input(self):
        rng = random.Random(44)
        for _ in range(150):
            flat = some_flat(rng, rng.randint(2, 7))
            flat[0] = ("amount", 0)
            for solve in (flat_least, flat_greatest):
                before = solve(flat)
                for number in (1, 2, 3, 6, 20, N):
                    after = solve(set_input(flat, 0, number))
                    self.assertTrue(all(b is None or (a is not None and a <= b) for a, b in zip(before, after)))
                    before = after


class TestNotInput(unittest.TestCase):
    CALLS = [
        lambda cell: set_input(OPENS, cell, 4),
        lambda cell: set_input(OPENS, cell, N),
        lambda cell: need(OPENS, cell, cell=4, goal=5),
        lambda cell: need_in_greatest(OPENS, cell, cell=4, goal=5),
        lambda cell: answers(OPENS, cell, cell=4, most=9),
        lambda cell: answers(OPENS, cell, cell=4, most=0),
        lambda cell: is_missed(OPENS, cell, cell=4, goal=5, amount=1, x=[9, 9, 9, 9, 9]),
        lambda cell: is_missed(OPENS, cell, cell=4, goal=5, amount=1, x=[1, 3, 20, 0, 1]),
        lambda cell: miss_of(OPENS, cell, cell=4, goal=5, amount=1),
        lambda cell: miss_of(OPENS, cell, cell=4, goal=5, amount=900),
    ]

    def test_each_function_and_each_kind_of_formula(self):
        for number, call in enumerate(self.CALLS):
            for cell in (1, 3, 4):
                with self.subTest(call=number, cell=cell):
                    with self.assertRaises(NotInput) as caught:
                        call(cell)
                    self.assertEqual(caught.exception.cell, cell)

    def test_what_is_no_cell(self):
        for call in self.CALLS:
            for cell in (5, -1, -5, 10 ** 30):
                with self.assertRaises(NotInput) as caught:
                    call(cell)
                self.assertEqual(caught.exception.cell, cell)

    def test_no_error_at_an_input(self):
        for call in self.CALLS:
            call(0)
            call(2)


class TestNeed(unittest.TestCase):
    def test_the_example_of_the_document(self):
        self.assertEqual(need(EXAMPLE, 0, cell=1, goal=4), 4)

    def test_along_a_row(self):
        flat = [("amount", 500), ("greatest", [(0, -30)]), ("least", [(1, 5)])]
        for goal, least in [(1, 0), (5, 0), (6, 31), (7, 32), (999, 1024)]:
            self.assertEqual(need(flat, 0, cell=2, goal=goal), least)
            self.assertEqual(need_in_greatest(flat, 0, cell=2, goal=goal), least)
        self.assertEqual(need(flat, 0, cell=0, goal=1), 1)
        self.assertEqual(need(flat, 0, cell=0, goal=999), 999)

    def test_the_need_0(self):
        flat = [("amount", 7), ("greatest", [(0, -3), (2, 0)]), ("amount", 5), ("amount", N), ("least", [(3, 0)])]
        for cell, goal in [(1, 1), (1, 5), (2, 5), (3, 999), (4, 999)]:
            self.assertEqual(need(flat, 0, cell=cell, goal=goal), 0)
            self.assertEqual(need_in_greatest(flat, 0, cell=cell, goal=goal), 0)
        self.assertEqual(need(flat, 0, cell=1, goal=6), 9)

    def test_no_need(self):
        flat = [("amount", 7), ("least", [(0, 0), (2, 0)]), ("amount", 5), ("greatest", [(3, 1)]), ("least", [(2, 0)])]
        self.assertEqual(need(flat, 0, cell=1, goal=5), 5)
        for cell, goal in [(1, 6), (1, 999), (2, 6), (4, 6)]:
            self.assertIsNone(need(flat, 0, cell=cell, goal=goal))
            self.assertIsNone(need_in_greatest(flat, 0, cell=cell, goal=goal))

    def test_endless_alone_reaches_no_goal(self):
        # With a number as input the circle falls to 0, with an endless one it would stay endless.
        flat = [("amount", N), ("least", [(1, -1), (0, 0)])]
        self.assertIsNone(need(flat, 0, cell=1, goal=1))
        self.assertIsNone(need_in_greatest(flat, 0, cell=1, goal=1))
        self.assertEqual(flat_greatest(flat), [N, N])

    def test_needs_above_999(self):
        flat = [("amount", 0)] + [("greatest", [(cell - 1, -999)]) for cell in range(1, 24)]
        self.assertEqual(need(flat, 0, cell=1, goal=999), 1998)
        self.assertEqual(need(flat, 0, cell=23, goal=1), 999 * 23 + 1)
        self.assertEqual(need_in_greatest(flat, 0, cell=23, goal=999), 999 * 24)

    def test_the_two_solutions_differ(self):
        # The circle keeps what it has; from above it has the 9 of its limit.
        flat = [("amount", 0), ("least", [(2, 0), (3, 0)]), ("greatest", [(1, 0), (0, 0)]), ("amount", 9)]
        self.assertEqual(need(flat, 0, cell=1, goal=6), 6)
        self.assertEqual(need_in_greatest(flat, 0, cell=1, goal=6), 0)
        self.assertEqual(need(flat, 0, cell=1, goal=10), None)
        self.assertEqual(need_in_greatest(flat, 0, cell=1, goal=10), None)
        flat = [("amount", 0), ("greatest", [(1, 0)]), ("greatest", [(0, -3), (1, -9)])]
        self.assertEqual(need(flat, 0, cell=2, goal=4), 7)
        self.assertEqual(need_in_greatest(flat, 0, cell=2, goal=4), 0)
        self.assertEqual(need(flat, 0, cell=1, goal=1), None)

    def test_a_need_that_comes_of_a_condition(self):
        self.assertEqual(need(OPENS, 0, cell=4, goal=4), 4)
        self.assertEqual(need(OPENS, 0, cell=4, goal=6), 5)
        self.assertEqual(need(OPENS, 0, cell=4, goal=21), 5)
        self.assertEqual(need(OPENS, 0, cell=4, goal=22), 22)
        self.assertEqual(need_in_greatest(OPENS, 0, cell=4, goal=21), 5)
        # By the other input: what goes through, not what opens.
        self.assertEqual(need(OPENS, 2, cell=4, goal=21), None)
        opened = set_input(OPENS, 0, 6)
        self.assertEqual(need(opened, 2, cell=4, goal=21), 20)
        self.assertEqual(need(opened, 2, cell=4, goal=6), 0)

    def test_a_need_that_comes_of_a_circle(self):
        self.assertEqual(need(JUMPS, 0, cell=1, goal=2), 2)
        self.assertEqual(need(JUMPS, 0, cell=1, goal=3), 4)
        self.assertEqual(need(JUMPS, 0, cell=1, goal=999), 4)
        self.assertEqual(need_in_greatest(JUMPS, 0, cell=1, goal=999), 4)

    def test_some_sheets(self):
        rng = random.Random(45)
        found = {"none": 0, "zero": 0, "more": 0, "differ": 0}
        for _ in range(300):
            flat = some_flat(rng, rng.randint(2, 6))
            flat[0] = ("amount", 0)
            cell, goal = rng.randrange(len(flat)), rng.randint(1, 9)
            low = need_by_trying(flat, 0, cell, goal, least_of_flat, 60)
            high = need_by_trying(flat, 0, cell, goal, greatest_of_flat, 60)
            with self.subTest(flat=flat, cell=cell, goal=goal):
                self.assertEqual(need(flat, 0, cell=cell, goal=goal), low)
                self.assertEqual(need_in_greatest(flat, 0, cell=cell, goal=goal), high)
            found["none"] += low is None
            found["zero"] += low == 0
            found["more"] += low is not None and low > 0
            found["differ"] += low != high
        self.assertTrue(all(many > 20 for many in found.values()), found)

    def test_600_cells(self):
        flat = [("amount", 0)] + [("least", [(cell - 1, -999)]) for cell in range(1, 600)]
        self.assertEqual(need(flat, 0, cell=599, goal=999), 999 * 600)
        self.assertEqual(need_in_greatest(flat, 0, cell=599, goal=1), 999 * 599 + 1)
        flat = [("amount", 0)] + [("when", cell - 1, cell, 0) for cell in range(1, 600)]
        self.assertEqual(need(flat, 0, cell=599, goal=1), 599)
        self.assertEqual(need_in_greatest(flat, 0, cell=599, goal=700), 700)
        self.assertEqual(need(flat, 0, cell=300, goal=7), 300)
        ring = [("greatest", [((cell + 1) % 599, 1 if cell else -599), (599, -999)]) for cell in range(599)] + [("amount", 0)]
        self.assertEqual(need(ring, 599, cell=300, goal=999), 999 + 999 - 299)

    def test_numbers_beyond_the_limits(self):
        flat = [("amount", 0)] + [("least", [(cell - 1, -5000)]) for cell in range(1, 10)]
        self.assertEqual(need(flat, 0, cell=9, goal=3000), 48000)
        self.assertEqual(need_in_greatest(flat, 0, cell=9, goal=3000), 48000)
        flat = [("amount", 0), ("when", 0, 50000, 2), ("amount", 4)]
        self.assertEqual(need(flat, 0, cell=1, goal=4), 50000)
        self.assertEqual(need_in_greatest(flat, 0, cell=1, goal=4), 50000)
        self.assertIsNone(need(flat, 0, cell=1, goal=5))
        self.assertEqual(need(flat, 0, cell=0, goal=70000), 70000)


class TestAnswers(unittest.TestCase):
    def test_steps_of_1(self):
        flat = [("amount", 0), ("greatest", [(0, -2)]), ("amount", 3)]
        self.assertEqual(answers(flat, 0, cell=0, most=4), [(0, 0), (1, 1), (2, 2), (3, 3), (4, 4)])
        self.assertEqual(answers(flat, 0, cell=1, most=5), [(0, 0), (3, 1), (4, 2), (5, 3)])
        self.assertEqual(answers(flat, 0, cell=1, most=60), [(0, 0)] + [(number, number - 2) for number in range(3, 61)])

    def test_up_to_0(self):
        self.assertEqual(answers(OPENS, 0, cell=4, most=0), [(0, 1)])
        self.assertEqual(answers(OPENS, 0, cell=0, most=0), [(0, 0)])
        self.assertEqual(answers([("amount", 4), ("amount", N)], 0, cell=1, most=0), [(0, N)])

    def test_a_jump_to_endless(self):
        self.assertEqual(answers(JUMPS, 0, cell=1, most=60), [(0, 1), (2, 2), (4, N)])
        self.assertEqual(answers(JUMPS, 0, cell=2, most=60), [(0, 0), (4, N)])
        self.assertEqual(answers(JUMPS, 0, cell=2, most=3), [(0, 0)])
        self.assertEqual(answers(JUMPS, 0, cell=2, most=4), [(0, 0), (4, N)])

    def test_one_step_only(self):
        self.assertEqual(answers(OPENS, 0, cell=2, most=60), [(0, 20)])
        self.assertEqual(answers(JUMPS, 4, cell=0, most=60), [(0, 1)])
        self.assertEqual(answers(set_input(JUMPS, 0, 9), 4, cell=2, most=60), [(0, N)])

    def test_conditions(self):
        self.assertEqual(answers(OPENS, 0, cell=4, most=24), [(0, 1), (2, 2), (3, 3), (4, 4), (5, 21), (22, 22), (23, 23), (24, 24)])

    def test_the_least_solution_counts(self):
        flat = [("amount", 3), ("greatest", [(1, 0), (0, -1)])]
        self.assertEqual(answers(flat, 0, cell=1, most=3), [(0, 0), (2, 1), (3, 2)])

    def test_some_sheets(self):
        rng = random.Random(46)
        for _ in range(100):
            flat = some_flat(rng, rng.randint(2, 6))
            flat[0] = ("amount", 0)
            cell, most = rng.randrange(len(flat)), rng.choice([0, 1, 5, 12])
            all_amounts = [least_of_flat(with_input(flat, 0, number))[cell] for number in range(most + 1)]
            steps = [(number, amount) for number, amount in enumerate(all_amounts)
                     if number == 0 or amount != all_amounts[number - 1]]
            with self.subTest(flat=flat):
                self.assertEqual(answers(flat, 0, cell=cell, most=most), steps)

    def test_600_cells(self):
        flat = [("amount", 0)] + [("when", cell - 1, cell, 0) for cell in range(1, 600)]
        self.assertEqual(answers(flat, 0, cell=20, most=60), [(0, 0)] + [(number, number) for number in range(20, 61)])


class TestMissed(unittest.TestCase):
    GOAL = {"cell": 1, "goal": 6, "amount": 5}

    def missed(self, x, **changed):
        return is_missed(EXAMPLE, 0, x=x, **{**self.GOAL, **changed})

    def test_right_checks(self):
        self.assertEqual(flat_least(set_input(EXAMPLE, 0, 5)), [5, 5, 5])
        self.assertIs(self.missed([5, 5, 5]), True)
        self.assertIs(self.missed([5, 4, 4], amount=4, goal=5), False)
        self.assertIs(self.missed([4, 4, 4], amount=4, goal=5), True)

    def test_a_check_need_not_be_the_least_solution(self):
        flat = [("amount", 0), ("greatest", [(0, 0), (2, 0)]), ("greatest", [(2, 0)])]
        for x, answer in [([3, 3, 0], True), ([3, 5, 5], True), ([3, 9, 5], True), ([3, 9, 9], True), ([7, 9, 4], True),
                          ([3, 10, 5], False), ([3, N, 5], False), ([3, 2, 0], False), ([2, 3, 0], False), ([3, 4, 5], False),
                          ([N, N, N], False), ([9, 9, 10], False)]:
            with self.subTest(x=x):
                self.assertIs(is_missed(flat, 0, cell=1, goal=10, amount=3, x=x), answer)

    def test_one_thing_spoilt(self):
        # Not high, by a cell each.
        self.assertIs(self.missed([4, 5, 5]), False)
        self.assertIs(self.missed([5, 2, 5]), False)
        self.assertIs(self.missed([5, 5, 4]), False)
        # The goal is reached at the cell.
        self.assertIs(self.missed([5, 5, 5], goal=5), False)
        self.assertIs(self.missed([6, 6, 6]), False)
        self.assertIs(self.missed([6, 6, 6], goal=7), True)
        self.assertIs(self.missed([N, N, N]), False)
        # Made for another number.
        self.assertIs(self.missed([5, 5, 5], amount=6), False)
        self.assertIs(self.missed([4, 4, 4]), False)
        self.assertIs(self.missed([5, 5, 5], amount=4), True)

    def test_amounts_of_any_size(self):
        far = 10 ** 30
        flat = [("amount", 0), ("least", [(0, 0), (2, 0)]), ("amount", 3)]
        self.assertIs(is_missed(flat, 0, cell=1, goal=4, amount=900, x=[far, 3, 3]), True)
        self.assertIs(is_missed(flat, 0, cell=1, goal=4, amount=900, x=[N, 3, 3]), True)
        self.assertIs(is_missed(flat, 0, cell=1, goal=4, amount=900, x=[far, far, 3]), False)

    def test_miss_of(self):
        for goal, number in [(6, 5), (7, 5), (999, 998), (1, 0)]:
            x = miss_of(EXAMPLE, 0, cell=1, goal=goal, amount=number)
            self.assertIs(self.missed(x, goal=goal, amount=number), True)

    def test_none_where_the_number_reaches_the_goal(self):
        for goal, number in [(5, 5), (5, 6), (1, 1), (999, 999), (999, 10 ** 9)]:
            self.assertIsNone(miss_of(EXAMPLE, 0, cell=1, goal=goal, amount=number))
        self.assertIsNone(miss_of(JUMPS, 0, cell=1, goal=999, amount=4))
        self.assertIsNotNone(miss_of(JUMPS, 0, cell=1, goal=999, amount=3))

    def test_some_sheets(self):
        rng = random.Random(47)
        found = [0, 0]
        for _ in range(400):
            flat = some_flat(rng, rng.randint(2, 6))
            flat[0] = ("amount", 0)
            cell, goal, number = rng.randrange(len(flat)), rng.randint(1, 6), rng.randint(0, 8)
            with self.subTest(flat=flat, cell=cell, goal=goal, number=number):
                made = with_input(flat, 0, number)
                amount = least_of_flat(made)[cell]
                x = miss_of(flat, 0, cell=cell, goal=goal, amount=number)
                found[x is None] += 1
                self.assertEqual(x is None, amount is None or amount >= goal)
                if x is not None:
                    self.assertTrue(is_high(made, x))
                    self.assertIs(is_missed(flat, 0, cell=cell, goal=goal, amount=number, x=x), True)
                other = [rng.choice([N, 0, 1, 2, 3, 5, 8, 12]) for _ in flat]
                after = flat_round(made, other)
                high = all(b is None or (a is not None and a <= b) for a, b in zip(after, other))
                below = other[cell] is not None and other[cell] < goal
                self.assertIs(is_missed(flat, 0, cell=cell, goal=goal, amount=number, x=other), high and below)
        self.assertTrue(all(many > 50 for many in found), found)


if __name__ == "__main__":
    unittest.main()
