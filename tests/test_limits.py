"""Flat sheets of 600 cells with shifts up to 999, long rings, long rows, and long rows of conditions."""

import random
import unittest

from circlesettle.endless import (
    are_holding, endless_cells, endless_paper, gaining_way, holding_choices, is_gaining, shows_endless,
)
from circlesettle.flat import flat_form, is_flat_solution
from circlesettle.greatest import (
    flat_greatest, greatest_paper, greatest_solution, held_ranks, is_greatest_paper, stages_from_above, tight_ranks,
)
from circlesettle.least import flat_least, is_least_paper, least_paper, least_solution, stages_from_below
from circlesettle.rounds import from_above, from_below

COUNT = 600


def ring(words, shifts, *, back=False):
    """A ring: each cell has an arc to the next one, or to the one before it."""
    many = len(words)
    step = -1 if back else 1
    return [(words[cell], [((cell + step) % many, shifts[cell])]) for cell in range(many)]


class Limits(unittest.TestCase):
    def check(self, flat, least=None, greatest=None):
        """Both solutions, as told, or at least as the papers show them."""
        low, high = least_paper(flat), greatest_paper(flat)
        self.assertTrue(is_least_paper(flat, low))
        self.assertTrue(is_greatest_paper(flat, high))
        self.assertEqual(flat_least(flat), low[-1][1])
        self.assertEqual(flat_greatest(flat), high[-1][1])
        if least is not None:
            self.assertEqual(flat_least(flat), least)
        if greatest is not None:
            self.assertEqual(flat_greatest(flat), greatest)


class TestRings(Limits):
    def test_rings_that_gain_by_one(self):
        for back in (False, True):
            shifts = [999, -999] * 299 + [999, -998]
            for word in ("least", "greatest"):
                self.check(ring([word] * COUNT, shifts, back=back), [None] * COUNT, [None] * COUNT)
            shifts = [0] * 599 + [1]
            self.check(ring(["least"] * COUNT, shifts, back=back), [None] * COUNT, [None] * COUNT)

    def test_rings_without_gain(self):
        for back in (False, True):
            for shifts in ([999] * 300 + [-999] * 300, [0] * COUNT, [999, -999] * 300, [-999] * 599 + [999]):
                self.check(ring(["greatest"] * COUNT, shifts, back=back), None, [None] * COUNT)
        self.assertEqual(flat_least(ring(["greatest"] * COUNT, [999] * 300 + [-999] * 300)),
                         [999 * (300 - cell) for cell in range(300)] + [999 * cell for cell in range(300)])

    def test_a_ring_that_an_amount_limits(self):
        flat = ring(["least"] * 599, [1] * 599)
        flat[0] = ("least", [(1, 1), (599, 0)])
        flat.append(("amount", 999))
        climbing = [999] + [999 + 599 - cell for cell in range(1, 599)] + [999]
        self.check(flat, climbing, climbing)

    def test_a_ring_that_falls_to_the_floor(self):
        flat = ring(["least"] * 599, [-1] * 599)
        flat[0] = ("least", [(1, -1), (599, 0)])
        flat.append(("amount", 999))
        self.check(flat, [0] * 599 + [999], [0] * 599 + [999])

    def test_a_ring_with_gain_that_falls_slowly(self):
        # The shifts are together -1, so the amounts fall by 1 in 599 rounds.
        flat = ring(["greatest"] * 599, [999, -999] * 299 + [-1])
        flat[0] = ("least", [(1, 999), (599, 0)])
        flat.append(("amount", 999))
        self.check(flat)
        self.assertEqual(flat_least(flat), flat_greatest(flat))

    def test_a_ring_that_would_climb_slowly(self):
        flat = [("least", [(1, 0), (2, 0)]), ("greatest", [(0, 1)])]
        flat += [("greatest", [(cell + 1, 999)]) for cell in range(2, 599)] + [("amount", 999)]
        far = 999 * 598
        self.check(flat, [far, far + 1] + [999 * (600 - cell) for cell in range(2, 600)])

    def test_rings_within_rings(self):
        flat = [("greatest", [((cell + 1) % COUNT, 1), ((cell - 1) % COUNT, -1)]) for cell in range(COUNT)]
        self.check(flat, [None] * COUNT, [None] * COUNT)
        flat = [("least", [((cell + 1) % COUNT, 1), ((cell - 1) % COUNT, -1)]) for cell in range(COUNT)]
        self.check(flat, [0] * COUNT, [None] * COUNT)

    def test_beyond_the_limits(self):
        flat = ring(["greatest"] * 700, [2000, -1999] * 350)
        self.check(flat, [None] * 700, [None] * 700)


class TestRows(Limits):
    def test_rows_from_an_amount(self):
        for word in ("least", "greatest"):
            for shift in (999, 1, 0, -1, -999):
                amounts = [max(999 + shift * cell, 0) for cell in range(COUNT)]
                flat = [("amount", 999)] + [(word, [(cell - 1, shift)]) for cell in range(1, COUNT)]
                self.check(flat, amounts, amounts)
                flat = [(word, [(cell + 1, shift)]) for cell in range(599)] + [("amount", 999)]
                self.check(flat, amounts[::-1], amounts[::-1])

    def test_rows_beside_an_amount(self):
        flat = [("amount", 999)] + [("greatest", [(cell - 1, -1), (0, -998)]) for cell in range(1, COUNT)]
        amounts = [999 - cell for cell in range(COUNT)]
        self.check(flat, amounts, amounts)
        flat = [("amount", 0)] + [("least", [(cell - 1, 1), (0, 998)]) for cell in range(1, COUNT)]
        self.check(flat, list(range(COUNT)), list(range(COUNT)))

    def test_rows_from_endless(self):
        flat = [("amount", None)] + [("least", [(cell - 1, -999)]) for cell in range(1, COUNT)]
        self.check(flat, [None] * COUNT, [None] * COUNT)
        flat = [("least", [(cell + 1, -999)]) for cell in range(599)] + [("amount", None)]
        self.check(flat, [None] * COUNT, [None] * COUNT)

    def test_ranks_of_rows(self):
        flat = [("amount", 1)] + [("least", [(cell - 1, 1)]) for cell in range(1, COUNT)]
        self.assertEqual(held_ranks(flat), list(range(COUNT)))
        self.assertEqual(tight_ranks(flat, flat_greatest(flat)), list(range(COUNT)))

    def test_200_rounds(self):
        flat = [("amount", 1)] + [("least", [(cell - 1, 999)] * 6) for cell in range(1, COUNT)]
        self.assertEqual(from_below(flat, rounds=200)[:200], [1 + 999 * cell for cell in range(200)])
        self.assertEqual(from_above(flat, rounds=200), [1 + 999 * cell for cell in range(200)] + [None] * 400)


class TestConditions(Limits):
    def test_a_row_of_conditions_that_open(self):
        flat = [("amount", 5)] + [("when", cell - 1, 3, 0) for cell in range(1, COUNT)]
        stages = stages_from_below(flat)
        self.assertEqual(len(stages), COUNT)
        for number, (places, x) in enumerate(stages):
            self.assertEqual(places, list(range(1, number + 1)))
            self.assertEqual(x, [5] * (number + 1) + [0] * (599 - number))
        self.check(flat, [5] * COUNT, [5] * COUNT)

    def test_a_row_of_conditions_that_become_endless(self):
        flat = [("when", cell + 1, 999, cell + 1) for cell in range(599)] + [("amount", None)]
        stages = stages_from_below(flat)
        self.assertEqual(len(stages), COUNT)
        self.assertEqual(stages[300], (list(range(299, 599)), [0] * 299 + [None] * 301))
        self.check(flat, [None] * COUNT, [None] * COUNT)

    def test_a_row_of_conditions_that_close(self):
        flat = [("amount", 2), ("amount", 5), ("when", 0, 3, 1)] + [("when", cell - 1, 3, 1) for cell in range(3, COUNT)]
        stages = stages_from_above(flat)
        self.assertEqual(len(stages), 599)
        for number, (places, x) in enumerate(stages):
            self.assertEqual(places, list(range(2 + number, COUNT)))
            self.assertEqual(x, [2, 5] + [0] * number + [5] * (598 - number))
        self.check(flat, [2, 5] + [0] * 598, [2, 5] + [0] * 598)

    def test_a_row_of_conditions_that_close_endless_cells(self):
        flat = [("when", cell + 1, 1, 599) for cell in range(598)] + [("amount", 0), ("amount", None)]
        self.assertEqual(len(stages_from_above(flat)), 599)
        self.check(flat, [0] * 599 + [None], [0] * 599 + [None])

    def test_conditions_lift_one_ring_stage_by_stage(self):
        many = 199
        flat = [("greatest", [((cell + 1) % many, 0), (many + cell, 0)]) for cell in range(many)]
        flat += [("when", 0, cell, 2 * many + cell) for cell in range(many)]
        flat += [("amount", cell + 1) for cell in range(many)]
        flat[many] = ("amount", 1)
        stages = stages_from_below(flat)
        self.assertEqual(len(stages), many)
        for number, (places, x) in enumerate(stages):
            self.assertEqual(places, list(range(many + 1, many + 1 + number)))
            self.assertEqual(x[:many], [number + 1] * many)
        self.check(flat)

    def test_conditions_lower_one_ring_stage_by_stage(self):
        many = 149
        flat = [("least", [((cell + 1) % many, 0), (many + cell, 0)]) for cell in range(many)]
        flat += [("greatest", [(2 * many + cell, 0), (3 * many + cell, 0)]) for cell in range(many)]
        flat += [("when", 0, 900 - cell, 4 * many) for cell in range(many)]
        flat += [("amount", 898 - cell) for cell in range(many)]
        flat += [("amount", 900), ("amount", 899)]
        flat[0] = ("least", [(1, 0), (many, 0), (4 * many + 1, 0)])
        stages = stages_from_above(flat)
        self.assertEqual(len(stages), many + 1)
        for number, (places, x) in enumerate(stages):
            self.assertEqual(places, list(range(2 * many + number, 3 * many)))
            self.assertEqual(x[:many], [899 - number] * many)
        self.check(flat)


class TestManyArcs(Limits):
    def test_sheets_by_a_seed(self):
        for seed in range(24):
            rng = random.Random(seed)
            most = [1, 2, 10, 999][seed % 4]
            near = [3, 40, 600][seed % 3]
            words = ["least", "greatest"] * 6 + ["amount"] + ["when"] * (seed % 5)
            flat = []
            for cell in range(COUNT):
                word = rng.choice(words)
                if word == "amount":
                    flat.append((word, rng.choice([None] + [rng.randint(0, 999)] * 9)))
                elif word == "when":
                    flat.append((word, rng.randrange(COUNT), rng.choice([rng.randint(1, 999), 1]), rng.randrange(COUNT)))
                else:
                    arcs = [((cell + rng.randint(-near, near)) % COUNT, rng.randint(-most, most))
                            for _ in range(rng.randint(1, 6))]
                    flat.append((word, arcs))
            with self.subTest(seed=seed):
                self.check(flat)
                self.assertTrue(is_flat_solution(flat, flat_least(flat)))

    def test_endless_cells_of_many(self):
        rng = random.Random(600)
        for most in (1, 5, 999):
            flat = [(rng.choice(["least", "greatest"]), [(rng.randrange(COUNT), rng.randint(-most, most)) for _ in range(3)])
                    for _ in range(COUNT)]
            choices, potentials = endless_paper(flat)
            endless = endless_cells(flat)
            self.assertTrue(shows_endless(flat, choices, potentials))
            self.assertEqual([cell for cell in range(COUNT) if potentials[cell] is not None], endless)
            holding = holding_choices(flat)
            others = [cell for cell in range(COUNT) if cell not in endless]
            self.assertTrue(are_holding(flat, holding, others))
            self.assertFalse(endless and are_holding(flat, holding, endless[:1]))
            for cell in endless[:20]:
                way = gaining_way(flat, cell, holding)
                self.assertTrue(is_gaining(flat, holding, way))
            for cell in others[:20]:
                self.assertIsNone(gaining_way(flat, cell, holding))

    def test_a_long_way(self):
        flat = ring(["greatest", "least"] * 300, [999, -999] * 299 + [999, -998])
        choices = [None, 0] * 300
        way = gaining_way(flat, 7, choices)
        self.assertEqual(way, list(range(7, 600)) + list(range(8)))
        self.assertTrue(is_gaining(flat, choices, way))

    def test_sheets_of_24_cells(self):
        part = ("least", [("more", ("greatest", [("cell", 1), ("cell", 2)]), 999), ("amount", 999)])
        sheet = [("when", (cell + 1) % 24, 1, ("greatest", [("more", part, -999), ("cell", cell)])) for cell in range(24)]
        self.assertEqual(least_solution(sheet), [0] * 24)
        self.assertEqual(greatest_solution(sheet), [None] * 24)
        self.check(flat_form(sheet))


if __name__ == "__main__":
    unittest.main()
