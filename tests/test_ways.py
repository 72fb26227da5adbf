"""Points 27 and 28: gaining ways, and choices of "least" that hold cells."""

import random
import unittest

from circlesettle.endless import are_holding, endless_cells, gaining_way, holding_choices, is_gaining
from reference import all_choices, gains_from, is_gaining_way, least_of_flat, some_flat

# Cells 0 to 2 go round; cell 3 leads there or to the number, cell 5 to the endless amount.
PLAIN = [("greatest", [(1, 2), (1, -9), (2, 0)]), ("least", [(0, -1), (4, 0)]), ("greatest", [(0, -3), (2, 0)]),
         ("least", [(4, 0), (0, 0)]), ("amount", 5), ("greatest", [(4, 0), (6, -9)]), ("amount", None)]
ROUND = [None, 0, None, 1, None, None, None]
AWAY = [None, 1, None, 0, None, None, None]


class TestIsGaining(unittest.TestCase):
    def gains(self, way, choices=ROUND):
        return is_gaining(PLAIN, choices, way)

    def test_ways_into_a_circle(self):
        self.assertIs(self.gains([0, 1, 0]), True)
        self.assertIs(self.gains([1, 0, 1]), True)
        self.assertIs(self.gains([3, 0, 1, 0]), True)
        self.assertIs(self.gains([3, 0, 1, 0, 1]), True)

    def test_ways_to_the_endless_amount(self):
        self.assertIs(self.gains([6]), True)
        self.assertIs(self.gains([5, 6]), True)

    def test_ways_that_stop(self):
        self.assertIs(self.gains([0]), False)
        self.assertIs(self.gains([0, 1]), False)
        self.assertIs(self.gains([3, 0, 1]), False)
        self.assertIs(self.gains([5]), False)
        self.assertIs(self.gains([5, 4]), False)
        self.assertIs(self.gains([4]), False)

    def test_the_empty_list(self):
        self.assertIs(self.gains([]), False)

    def test_circles_without_gain(self):
        self.assertIs(self.gains([2, 2]), False)
        self.assertIs(self.gains([0, 2, 0]), False)
        self.assertIs(self.gains([2, 0, 2]), False)

    def test_steps_that_no_arc_makes(self):
        for way in ([1, 2, 1], [0, 0], [0, 3, 0], [3, 4], [4, 6], [6, 6], [6, 5, 6], [5, 5, 6], [4, 4]):
            with self.subTest(way=way):
                self.assertIs(self.gains(way), False)

    def test_the_told_arc_of_least(self):
        self.assertIs(self.gains([0, 1, 0], AWAY), False)
        self.assertIs(self.gains([3, 0, 1, 0], AWAY), False)
        self.assertIs(self.gains([5, 6], AWAY), True)

    def test_cells_that_are_not_there(self):
        for way in ([7], [-1], [-1, 6], [5, -1], [0, 1, 0, 7], [10 ** 40], [-7, 1, 0], [-7, 1, -7], [0, -6, 0]):
            with self.subTest(way=way):
                self.assertIs(self.gains(way), False)

    def test_a_last_cell_that_stands_twice_before(self):
        # From the first place on the shifts are 1 and -3 together, from the last one on they are -3 or 1.
        self.assertIs(self.gains([0, 1, 0, 2, 0]), False)
        self.assertIs(self.gains([0, 2, 0, 1, 0]), True)
        self.assertIs(self.gains([0, 1, 0, 1, 0, 1, 0]), True)
        self.assertIs(self.gains([0, 1, 0, 1, 0, 2, 0]), False)

    def test_a_circle_with_gain_before_one_without(self):
        self.assertIs(self.gains([0, 1, 0, 2, 2]), False)
        self.assertIs(self.gains([2, 2, 0, 1, 0]), True)

    def test_the_greatest_of_several_arcs_to_one_cell(self):
        self.assertIs(is_gaining([("greatest", [(0, -5), (0, 1)])], [None], [0, 0]), True)
        self.assertIs(is_gaining([("greatest", [(0, -5), (0, 0)])], [None], [0, 0]), False)
        self.assertIs(is_gaining([("least", [(0, 0), (0, 1)])], [0], [0, 0]), False)
        self.assertIs(is_gaining([("least", [(0, 0), (0, 1)])], [1], [0, 0]), True)

    def test_some_ways(self):
        rng = random.Random(27)
        seen = {True: 0, False: 0}
        for _ in range(3000):
            plain = some_flat(rng, 4, whens=False)
            choices = rng.choice(all_choices(plain, "least"))
            way = [rng.randrange(4)]
            for _ in range(rng.randint(0, 7)):
                formula = plain[way[-1]]
                if formula[0] == "amount":
                    break
                at = choices[way[-1]] if formula[0] == "least" else rng.randrange(len(formula[1]))
                way.append(formula[1][at][0])
            if rng.random() < 0.2:
                way[rng.randrange(len(way))] = rng.randint(-1, 4)
            expected = is_gaining_way(plain, choices, way)
            seen[expected] += 1
            self.assertIs(is_gaining(plain, choices, way), expected)
        self.assertGreater(min(seen.values()), 300)


class TestGainingWay(unittest.TestCase):
    def check(self, plain, cell, choices):
        way = gaining_way(plain, cell, choices)
        self.assertEqual(way is not None, gains_from(plain, [cell], choices))
        if way is not None:
            self.assertEqual(way[0], cell)
            self.assertEqual(len(set(way[:-1])), len(way) - 1)
            self.assertIs(is_gaining(plain, choices, way), True)
            self.assertTrue(is_gaining_way(plain, choices, way))

    def test_the_sheet_above(self):
        for choices in (ROUND, AWAY):
            for cell in range(7):
                self.check(PLAIN, cell, choices)
        self.assertEqual([cell for cell in range(7) if gaining_way(PLAIN, cell, ROUND)], [0, 1, 2, 3, 5, 6])
        self.assertEqual([cell for cell in range(7) if gaining_way(PLAIN, cell, AWAY)], [5, 6])

    def test_the_endless_amount_itself(self):
        self.assertEqual(gaining_way(PLAIN, 6, ROUND), [6])
        self.assertEqual(gaining_way(PLAIN, 5, ROUND), [5, 6])

    def test_a_number(self):
        self.assertIsNone(gaining_way(PLAIN, 4, ROUND))

    def test_some_sheets(self):
        rng = random.Random(28)
        for _ in range(400):
            plain = some_flat(rng, rng.randint(1, 6), whens=False)
            choices = rng.choice(all_choices(plain, "least"))
            for cell in range(len(plain)):
                self.check(plain, cell, choices)

    def test_endless_cells_are_those_with_gaining_ways_for_all_choices(self):
        rng = random.Random(29)
        for _ in range(200):
            plain = some_flat(rng, 4, whens=False)
            choices = all_choices(plain, "least")
            always = [cell for cell in range(4) if all(gaining_way(plain, cell, each) for each in choices)]
            self.assertEqual(endless_cells(plain), always)


class TestHolding(unittest.TestCase):
    def test_choices_that_hold_and_choices_that_do_not(self):
        self.assertIs(are_holding(PLAIN, ROUND, [4]), True)
        for cell in (0, 1, 2, 3, 5, 6):
            self.assertIs(are_holding(PLAIN, ROUND, [cell]), False)
            self.assertIs(are_holding(PLAIN, ROUND, [4, cell]), False)
        self.assertIs(are_holding(PLAIN, AWAY, [0, 1, 2, 3, 4]), True)
        self.assertIs(are_holding(PLAIN, AWAY, [4, 3, 2]), True)
        self.assertIs(are_holding(PLAIN, AWAY, [0, 1, 2, 3, 4, 5]), False)

    def test_no_cells(self):
        self.assertIs(are_holding(PLAIN, ROUND, []), True)

    def test_holding_choices(self):
        choices = holding_choices(PLAIN)
        self.assertEqual([choice is None for choice in choices], [True, False, True, False, True, True, True])
        self.assertIs(are_holding(PLAIN, choices, [0, 1, 2, 3, 4]), True)

    def test_choices_of_sheets_without_least_or_with_endless_ones(self):
        self.assertEqual(holding_choices([("greatest", [(0, 1)])]), [None])
        self.assertIn(holding_choices([("least", [(0, 1), (0, 2)])]), ([0], [1]))

    def test_least_must_leave_the_circle(self):
        plain = [("least", [(0, 1), (1, 0)]), ("amount", 3)]
        self.assertEqual(holding_choices(plain), [1, None])
        plain = [("least", [(1, 500), (0, 0)]), ("amount", 900)]
        self.assertIs(are_holding(plain, holding_choices(plain), [0, 1]), True)

    def test_some_sheets(self):
        rng = random.Random(30)
        for _ in range(300):
            plain = some_flat(rng, 5, whens=False)
            numbers = [cell for cell, amount in enumerate(least_of_flat(plain)) if amount is not None]
            choices = holding_choices(plain)
            for formula, choice in zip(plain, choices):
                if formula[0] == "least":
                    self.assertIn(choice, range(len(formula[1])))
                else:
                    self.assertIsNone(choice)
            self.assertIs(are_holding(plain, choices, numbers), True)
            self.assertEqual([gaining_way(plain, cell, choices) for cell in numbers], [None] * len(numbers))
            other = rng.choice(all_choices(plain, "least"))
            for cell in range(5):
                self.assertIs(are_holding(plain, other, [cell]), not gains_from(plain, [cell], other))


if __name__ == "__main__":
    unittest.main()
