"""Points 34 to 38: what hangs on what, knots and their depths, what is touched, and solving knot by knot."""

import random
import unittest

from circlesettle.flat import flat_form
from circlesettle.greatest import flat_greatest
from circlesettle.knots import (
    depths_of, hanging, hangs_on, is_circle, knot_sheet, knots_of, solved_by_knots, touched,
)
from circlesettle.least import flat_least
from reference import greatest_of_flat, hanging_pairs, knots_by_words, least_of_flat, some_flat, some_sheet

N = None
EXAMPLE = [("greatest", [(1, 0), (3, 0)]), ("least", [(2, 1)]), ("least", [(1, 0), (3, 0)]), ("amount", 4)]

# Cell 0 stands in its own formula; 1, 2 and 3 go round; 4 hangs on both; 5 hangs on 4 as a condition and on 7 within.
MIXED = [("least", [(0, 1), (6, 0)]), ("greatest", [(2, 0), (7, 0)]), ("least", [(3, 1)]), ("when", 8, 2, 1),
         ("greatest", [(0, 0), (3, -1)]), ("when", 4, 3, 7), ("amount", 5), ("amount", N), ("greatest", [(6, -2)])]


class TestHangsOn(unittest.TestCase):
    def test_the_example_of_the_document(self):
        self.assertEqual([hangs_on(EXAMPLE, cell) for cell in range(4)], [[1, 2, 3], [1, 2, 3], [1, 2, 3], []])
        self.assertEqual([hanging(EXAMPLE, cell) for cell in range(4)], [[], [0, 1, 2], [0, 1, 2], [0, 1, 2]])

    def test_cells_on_circles_and_on_none(self):
        self.assertEqual(hangs_on(MIXED, 0), [0, 6])
        self.assertEqual(hangs_on(MIXED, 1), [1, 2, 3, 6, 7, 8])
        self.assertEqual(hangs_on(MIXED, 2), [1, 2, 3, 6, 7, 8])
        self.assertEqual(hangs_on(MIXED, 3), [1, 2, 3, 6, 7, 8])
        self.assertEqual(hangs_on(MIXED, 4), [0, 1, 2, 3, 6, 7, 8])
        self.assertEqual(hangs_on(MIXED, 5), [0, 1, 2, 3, 4, 6, 7, 8])
        self.assertEqual(hangs_on(MIXED, 6), [])
        self.assertEqual(hangs_on(MIXED, 8), [6])

    def test_hanging(self):
        self.assertEqual(hanging(MIXED, 0), [0, 4, 5])
        self.assertEqual(hanging(MIXED, 1), [1, 2, 3, 4, 5])
        self.assertEqual(hanging(MIXED, 4), [5])
        self.assertEqual(hanging(MIXED, 5), [])
        self.assertEqual(hanging(MIXED, 6), [0, 1, 2, 3, 4, 5, 8])
        self.assertEqual(hanging(MIXED, 7), [1, 2, 3, 4, 5])

    def test_each_of_the_two_cells_of_when(self):
        flat = [("amount", 3), ("amount", 4), ("when", 0, 2, 1), ("when", 3, 2, 0), ("when", 0, 2, 4), ("when", 5, 1, 5)]
        self.assertEqual([hangs_on(flat, cell) for cell in range(6)], [[], [], [0, 1], [0, 3], [0, 4], [5]])
        self.assertEqual(hanging(flat, 0), [2, 3, 4])
        self.assertEqual(hanging(flat, 1), [2])

    def test_a_cell_hangs_on_itself_on_circles_alone(self):
        self.assertEqual(hangs_on([("least", [(0, 0)])], 0), [0])
        self.assertEqual(hangs_on([("amount", 3)], 0), [])
        self.assertEqual(hangs_on([("least", [(1, 0)]), ("least", [(1, 0)])], 0), [1])

    def test_some_sheets(self):
        rng = random.Random(34)
        for _ in range(300):
            flat = some_flat(rng, rng.randint(1, 9))
            pairs = hanging_pairs(flat)
            for cell in range(len(flat)):
                with self.subTest(flat=flat, cell=cell):
                    self.assertEqual(hangs_on(flat, cell), sorted(b for a, b in pairs if a == cell))
                    self.assertEqual(hanging(flat, cell), sorted(a for a, b in pairs if b == cell))


class TestKnots(unittest.TestCase):
    def test_the_example_of_the_document(self):
        self.assertEqual(knots_of(EXAMPLE), [[3], [1, 2], [0]])

    def test_mixed(self):
        self.assertEqual(knots_of(MIXED), [[6], [0], [7], [8], [1, 2, 3], [4], [5]])

    def test_of_two_that_are_due_the_least_first_cell_comes_next(self):
        self.assertEqual(knots_of([("amount", 1), ("amount", 2), ("amount", 3)]), [[0], [1], [2]])
        flat = [("greatest", [(3, 0)]), ("least", [(4, 0)]), ("amount", 0), ("greatest", [(0, 0)]), ("least", [(1, 0)])]
        self.assertEqual(knots_of(flat), [[0, 3], [1, 4], [2]])

    def test_one_that_has_become_due_comes_before_those_that_were(self):
        # Cell 0 becomes due by cell 3 and comes before 4 and 5; cell 1 becomes due by cell 5 alone.
        flat = [("greatest", [(3, 0)]), ("least", [(5, 0)]), ("greatest", [(0, 0), (4, 0)]), ("amount", 0), ("amount", 1),
                ("amount", 2)]
        self.assertEqual(knots_of(flat), [[3], [0], [4], [2], [5], [1]])

    def test_the_first_cell_counts_and_no_other(self):
        # The knots [0, 5] and [1, 2] and [3, 4] are all due.
        flat = [("greatest", [(5, 0)]), ("greatest", [(2, 0)]), ("least", [(1, 0)]), ("when", 4, 1, 4), ("when", 3, 1, 3),
                ("least", [(0, 0)])]
        self.assertEqual(knots_of(flat), [[0, 5], [1, 2], [3, 4]])

    def test_one_knot_of_all_cells(self):
        flat = [("greatest", [(1, 0), (3, 0)]), ("least", [(2, 0)]), ("when", 3, 1, 0), ("least", [(0, 0)])]
        self.assertEqual(knots_of(flat), [[0, 1, 2, 3]])

    def test_two_circles_that_lead_from_the_one_to_the_other(self):
        flat = [("greatest", [(1, 0), (2, 0)]), ("greatest", [(0, 0)]), ("greatest", [(3, 0)]), ("greatest", [(2, 0)])]
        self.assertEqual(knots_of(flat), [[2, 3], [0, 1]])

    def test_circles(self):
        for knot, answer in [([6], False), ([0], True), ([7], False), ([1, 2, 3], True), ([4], False), ([5], False)]:
            with self.subTest(knot=knot):
                self.assertIs(is_circle(MIXED, knot), answer)
        self.assertIs(is_circle([("when", 0, 1, 1), ("amount", 3)], [0]), True)
        self.assertIs(is_circle([("when", 1, 1, 0), ("amount", 3)], [0]), True)
        self.assertIs(is_circle([("when", 1, 1, 1), ("amount", 3)], [0]), False)

    def test_some_sheets(self):
        rng = random.Random(35)
        sizes = set()
        for _ in range(600):
            flat = some_flat(rng, rng.randint(1, 9))
            knots, depths = knots_by_words(flat)
            pairs = hanging_pairs(flat)
            sizes |= {len(knot) for knot in knots}
            with self.subTest(flat=flat):
                self.assertEqual(knots_of(flat), knots)
                self.assertEqual(depths_of(flat), depths)
                for knot in knots:
                    self.assertIs(is_circle(flat, knot), (knot[0], knot[0]) in pairs)
        self.assertGreater(len(sizes), 5)


class TestDepths(unittest.TestCase):
    def test_mixed(self):
        self.assertEqual(depths_of(MIXED), [0, 1, 0, 1, 2, 3, 4])

    def test_the_example_of_the_document(self):
        self.assertEqual(depths_of(EXAMPLE), [0, 1, 2])

    def test_ways_of_different_lengths(self):
        # 0 hangs on 4 directly, and by 1, 2 and 3.
        flat = [("greatest", [(4, 0), (1, 0)]), ("least", [(2, 0), (4, 0)]), ("least", [(3, 0)]), ("least", [(4, 0)]),
                ("amount", 1)]
        self.assertEqual(knots_of(flat), [[4], [3], [2], [1], [0]])
        self.assertEqual(depths_of(flat), [0, 1, 2, 3, 4])

    def test_the_depths_are_in_the_order_of_the_knots(self):
        flat = [("amount", 1), ("greatest", [(3, 0)]), ("amount", 1), ("greatest", [(0, 0)]), ("amount", 2)]
        self.assertEqual(knots_of(flat), [[0], [2], [3], [1], [4]])
        self.assertEqual(depths_of(flat), [0, 0, 1, 2, 0])

    def test_own_cells_do_not_count(self):
        self.assertEqual(depths_of([("greatest", [(0, 1)])]), [0])
        self.assertEqual(depths_of([("greatest", [(1, 1)]), ("least", [(0, 0)])]), [0])
        self.assertEqual(depths_of([("greatest", [(1, 1)]), ("least", [(0, 0), (2, 0)]), ("amount", 1)]), [0, 1])

    def test_each_of_the_two_cells_of_when(self):
        flat = [("amount", 1), ("least", [(0, 0)]), ("when", 1, 1, 0), ("when", 0, 1, 1), ("when", 0, 1, 0)]
        self.assertEqual(depths_of(flat), [0, 1, 2, 2, 1])


class TestTouched(unittest.TestCase):
    def test_with_and_without_a_circle(self):
        self.assertEqual(touched(MIXED, 0), [0, 4, 5])
        self.assertEqual(touched(MIXED, 2), [1, 2, 3, 4, 5])
        self.assertEqual(touched(MIXED, 4), [4, 5])
        self.assertEqual(touched(MIXED, 5), [5])
        self.assertEqual(touched(MIXED, 8), [1, 2, 3, 4, 5, 8])
        self.assertEqual(touched(MIXED, 6), [0, 1, 2, 3, 4, 5, 6, 8])

    def test_no_other_cell_changes(self):
        rng = random.Random(37)
        changed = 0
        for _ in range(300):
            flat = some_flat(rng, rng.randint(2, 7))
            cell = rng.randrange(len(flat))
            other = list(flat)
            other[cell] = rng.choice(some_flat(rng, len(flat)))
            with self.subTest(flat=flat, other=other):
                self.assertEqual(touched(flat, cell), touched(other, cell))
                for solve in (flat_least, flat_greatest):
                    before, after = solve(flat), solve(other)
                    differ = [at for at in range(len(flat)) if before[at] != after[at]]
                    changed += len(differ)
                    self.assertLessEqual(set(differ), set(touched(flat, cell)))
        self.assertGreater(changed, 200)


class TestKnotSheet(unittest.TestCase):
    def test_cells_outside_at_several_places(self):
        x = [10, 11, 12, 13, 14, 5, N, 17, 18]
        self.assertEqual(knot_sheet(MIXED, [1, 2, 3], x),
                         [("greatest", [(1, 0), (3, 0)]), ("least", [(2, 1)]), ("when", 4, 2, 0), ("amount", 17),
                          ("amount", 18)])
        self.assertEqual(knot_sheet(MIXED, [0], x), [("least", [(0, 1), (1, 0)]), ("amount", N)])
        self.assertEqual(knot_sheet(MIXED, [4], x), [("greatest", [(1, 0), (2, -1)]), ("amount", 10), ("amount", 13)])
        self.assertEqual(knot_sheet(MIXED, [5], x), [("when", 1, 3, 2), ("amount", 14), ("amount", 17)])
        self.assertEqual(knot_sheet(MIXED, [6], x), [("amount", 5)])
        self.assertEqual(knot_sheet(MIXED, [7], x), [("amount", N)])

    def test_cells_outside_before_between_and_behind(self):
        flat = [("amount", 1), ("least", [(5, 2), (6, 0), (0, -3), (2, 1)]), ("amount", N), ("when", 0, 3, 6),
                ("amount", 4), ("when", 1, 3, 6), ("amount", 9)]
        self.assertEqual(knots_of(flat), [[0], [2], [4], [6], [1, 5], [3]])
        self.assertEqual(knot_sheet(flat, [1, 5], [1, 0, N, 0, 4, 0, 9]),
                         [("least", [(1, 2), (4, 0), (2, -3), (3, 1)]), ("when", 0, 3, 4), ("amount", 1), ("amount", N),
                          ("amount", 9)])

    def test_when_with_cells_inside_and_outside(self):
        flat = [("amount", 3), ("when", 2, 4, 0), ("when", 0, 5, 1), ("when", 1, 6, 2), ("when", 3, 7, 3)]
        self.assertEqual(knots_of(flat), [[0], [1, 2], [3], [4]])
        self.assertEqual(knot_sheet(flat, [1, 2], [3, 0, 0, 0, 0]), [("when", 1, 4, 2), ("when", 2, 5, 0), ("amount", 3)])
        self.assertEqual(knot_sheet(flat, [3], [3, 8, N, 0, 0]), [("when", 1, 6, 2), ("amount", 8), ("amount", N)])
        self.assertEqual(knot_sheet(flat, [4], [3, 8, N, 0, 0]), [("when", 1, 7, 1), ("amount", 0)])

    def test_amounts_of_any_size(self):
        far = 10 ** 30
        self.assertEqual(knot_sheet([("least", [(1, 2)]), ("amount", 3)], [0], [0, far]), [("least", [(1, 2)]), ("amount", far)])

    def test_the_sheet_of_a_knot_has_the_amounts_of_its_cells(self):
        rng = random.Random(36)
        for _ in range(200):
            flat = some_flat(rng, rng.randint(1, 8))
            for solve in (least_of_flat, greatest_of_flat):
                x = solve(flat)
                for knot in knots_of(flat):
                    with self.subTest(flat=flat, knot=knot):
                        self.assertEqual(solve(knot_sheet(flat, knot, x))[:len(knot)], [x[cell] for cell in knot])


class TestSolvedByKnots(unittest.TestCase):
    def check(self, flat):
        self.assertEqual(solved_by_knots(flat, greatest=False), flat_least(flat))
        self.assertEqual(solved_by_knots(flat, greatest=True), flat_greatest(flat))

    def test_told_sheets(self):
        self.assertEqual(solved_by_knots(EXAMPLE, greatest=False), [5, 5, 4, 4])
        self.assertEqual(solved_by_knots(EXAMPLE, greatest=True), [5, 5, 4, 4])
        self.assertEqual(solved_by_knots(MIXED, greatest=False), [5, N, N, N, N, N, 5, N, 3])
        self.check(EXAMPLE)
        self.check(MIXED)

    def test_where_the_two_differ(self):
        flat = [("least", [(0, 0), (1, 0)]), ("amount", 7), ("greatest", [(2, -1)]), ("when", 0, 7, 2), ("least", [(3, 2)])]
        self.assertEqual(solved_by_knots(flat, greatest=False), [0, 7, 0, 0, 2])
        self.assertEqual(solved_by_knots(flat, greatest=True), [7, 7, N, N, N])
        self.check(flat)

    def test_some_sheets(self):
        rng = random.Random(38)
        differ = 0
        for _ in range(400):
            flat = some_flat(rng, rng.randint(1, 10))
            with self.subTest(flat=flat):
                self.check(flat)
            differ += flat_least(flat) != flat_greatest(flat)
        self.assertGreater(differ, 50)

    def test_some_flat_forms(self):
        rng = random.Random(39)
        for _ in range(60):
            self.check(flat_form(some_sheet(rng, rng.randint(1, 6), 4)))


class TestLargeSheets(unittest.TestCase):
    def test_a_row_of_600_cells(self):
        row = [("greatest", [(cell + 1, -1)]) for cell in range(599)] + [("amount", 999)]
        self.assertEqual(hangs_on(row, 0), list(range(1, 600)))
        self.assertEqual(hangs_on(row, 599), [])
        self.assertEqual(hanging(row, 599), list(range(599)))
        self.assertEqual(touched(row, 300), list(range(301)))
        self.assertEqual(knots_of(row), [[cell] for cell in range(599, -1, -1)])
        self.assertEqual(depths_of(row), list(range(600)))
        for greatest in (False, True):
            self.assertEqual(solved_by_knots(row, greatest=greatest), list(range(400, 1000)))
        back = [("amount", N)] + [("when", cell - 1, 999, cell - 1) for cell in range(1, 600)]
        self.assertEqual(hangs_on(back, 599), list(range(599)))
        self.assertEqual(knots_of(back), [[cell] for cell in range(600)])
        self.assertEqual(depths_of(back), list(range(600)))
        for greatest in (False, True):
            self.assertEqual(solved_by_knots(back, greatest=greatest), [N] * 600)

    def test_a_ring_of_600_cells(self):
        for step in (1, -1, 7):
            ring = [("least", [((cell + step) % 600, 1)]) for cell in range(600)]
            everything = list(range(600))
            self.assertEqual(hangs_on(ring, 0), everything)
            self.assertEqual(hanging(ring, 599), everything)
            self.assertEqual(touched(ring, 5), everything)
            self.assertEqual(knots_of(ring), [everything])
            self.assertEqual(depths_of(ring), [0])
            self.assertIs(is_circle(ring, everything), True)
            self.assertEqual(knot_sheet(ring, everything, [0] * 600), ring)
            for greatest in (False, True):
                self.assertEqual(solved_by_knots(ring, greatest=greatest), [N] * 600)

    def test_many_arcs(self):
        rng = random.Random(600)
        for near in (3, 20, 600):
            flat = [("amount", 5)] + [("greatest", [((cell + rng.randint(-near, near)) % 600, rng.randint(-9, 9))
                                                    for _ in range(6)]) for cell in range(1, 600)]
            for greatest, solve in ((False, flat_least), (True, flat_greatest)):
                self.assertEqual(solved_by_knots(flat, greatest=greatest), solve(flat))


if __name__ == "__main__":
    unittest.main()
