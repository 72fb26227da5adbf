"""Point 23: papers for the least solution, right ones and ones with one thing spoilt."""

import random
import unittest

from circlesettle.endless import endless_paper
from circlesettle.least import is_least_paper, least_paper, least_ranks, stages_from_below
from reference import least_of_flat, open_sheet, some_flat

FLAT = [("amount", 3), ("when", 0, 3, 2), ("greatest", [(0, 1), (3, 0)]), ("when", 1, 4, 4),
        ("greatest", [(0, 0), (4, 1)]), ("when", 6, 2, 0), ("when", 5, 2, 0), ("least", [(2, 2), (0, 4)])]
N = None
FIRST = ([], [3, 0, 4, 0, N, 0, 0, 6], [0, 0, 1, 0, N, 0, 0, 2], [N, N, 0, N, 1, N, N, N], [N, N, N, N, 0, N, N, N])
SECOND = ([1], [3, 4, 4, 0, N, 0, 0, 6], [0, 2, 1, 0, N, 0, 0, 2], [N, 0, 0, N, 1, N, N, N], [N, N, N, N, 7, N, N, N])
THIRD = ([1, 3], [3, N, N, N, N, 0, 0, 7], [0, N, N, N, N, 0, 0, 1], [N, 0, 1, 0, 1, N, N, N],
         [N, -3, -2, -1, 0, N, N, N])
PAPER = [FIRST, SECOND, THIRD]


def changed(row, part, cell, value):
    """The tuple with another value at one place of one of its lists."""
    lists = [list(each) for each in row]
    lists[part][cell] = value
    return tuple(lists)


def with_list(row, part, told):
    return tuple(told if at == part else each for at, each in enumerate(row))


def made(flat, places):
    """The tuple of a paper for these open conditions, each one being right for its own plain flat sheet."""
    plain = open_sheet(flat, places)
    x = least_of_flat(plain)
    return (places, x, least_ranks(plain, x), *endless_paper(plain))


class TestRightPapers(unittest.TestCase):
    def test_one_made_by_hand(self):
        self.assertIs(is_least_paper(FLAT, PAPER), True)
        self.assertEqual(PAPER[-1][1], least_of_flat(FLAT))

    def test_several_stages_may_be_one(self):
        flat = [("amount", 3), ("when", 0, 1, 0), ("when", 0, 1, 0), ("when", 0, 1, 0)]
        for rows in ([[], [1, 2, 3]], [[], [1], [1, 2, 3]], [[], [2], [1, 2], [1, 2, 3]], [[], [3], [2, 3], [1, 2, 3]]):
            with self.subTest(rows=rows):
                self.assertIs(is_least_paper(flat, [made(flat, places) for places in rows]), True)

    def test_sheets_with_one_stage(self):
        self.assertIs(is_least_paper([("amount", 4)], [([], [4], [0], [N], [N])]), True)
        self.assertIs(is_least_paper([("amount", N)], [([], [N], [N], [N], [5])]), True)
        self.assertIs(is_least_paper([("greatest", [(0, 0)])], [([], [0], [3], [0], [N])]), True)
        self.assertIs(is_least_paper([("when", 0, 5, 0)], [([], [0], [0], [N], [N])]), True)

    def test_made_papers(self):
        rng = random.Random(23)
        for _ in range(300):
            flat = some_flat(rng, rng.randint(1, 8), most=rng.choice([1, 3, 999]))
            paper = least_paper(flat)
            with self.subTest(flat=flat):
                self.assertIs(is_least_paper(flat, paper), True)
                self.assertEqual([(row[0], row[1]) for row in paper], stages_from_below(flat))
                self.assertEqual({type(row) for row in paper}, {tuple})
                self.assertEqual({len(row) for row in paper}, {5})

    def test_the_paper_of_the_sheet_above(self):
        paper = least_paper(FLAT)
        self.assertIs(is_least_paper(FLAT, paper), True)
        self.assertEqual([row[0] for row in paper], [[], [1], [1, 3]])


class TestWrongOpen(unittest.TestCase):
    FLAT = [("amount", 3), ("when", 0, 1, 0), ("when", 0, 3, 0), ("when", 0, 2, 0), ("least", [(1, 0), (0, 0)])]

    def check(self, rows):
        return is_least_paper(self.FLAT, [made(self.FLAT, places) for places in rows])

    def test_the_empty_list(self):
        self.assertIs(is_least_paper(self.FLAT, []), False)
        self.assertIs(is_least_paper([("amount", 0)], []), False)

    def test_a_right_one(self):
        self.assertIs(self.check([[], [1, 2, 3]]), True)
        self.assertIs(self.check([[], [2], [1, 2, 3]]), True)

    def test_the_first_open_is_not_empty(self):
        self.assertIs(self.check([[1, 2, 3]]), False)
        self.assertIs(self.check([[1], [1, 2, 3]]), False)
        self.assertIs(is_least_paper(FLAT, PAPER[1:]), False)
        self.assertIs(is_least_paper(FLAT, PAPER[2:]), False)

    def test_one_of_the_elder_ones_is_lacking(self):
        self.assertIs(self.check([[], [1], [2], [1, 2, 3]]), False)
        self.assertIs(self.check([[], [1, 2], [2, 3], [1, 2, 3]]), False)
        self.assertIs(self.check([[], [1, 2, 3], []]), False)
        self.assertIs(self.check([[], [1], [2, 3], [1, 2, 3]]), False)
        self.assertIs(self.check([[], [2], [1, 3], [1, 2, 3]]), False)

    def test_there_is_none_further(self):
        self.assertIs(self.check([[], []]), False)
        self.assertIs(self.check([[], [1], [1], [1, 2, 3]]), False)
        self.assertIs(self.check([[], [1, 2, 3], [1, 2, 3]]), False)

    def test_it_is_not_ascending(self):
        for places in ([2, 1, 3], [3, 2, 1], [1, 1, 2, 3], [1, 2, 3, 3]):
            with self.subTest(places=places):
                self.assertIs(self.check([[], places]), False)

    def test_a_cell_that_is_no_condition(self):
        for places in ([0, 1, 2, 3], [1, 2, 3, 4], [1, 2, 3, 5], [-1, 1, 2, 3], [-3, 1, 2, 3], [1, 2, 3, 10 ** 30]):
            row = with_list(made(self.FLAT, [1, 2, 3]), 0, places)
            with self.subTest(places=places):
                self.assertIs(is_least_paper(self.FLAT, [made(self.FLAT, []), row]), False)
                row = with_list(made(self.FLAT, [1, 2, 3]), 0, places)
                self.assertIs(is_least_paper(self.FLAT, [row]), False)

    def test_the_last_one_lacks_some(self):
        self.assertIs(self.check([[]]), False)
        self.assertIs(self.check([[], [1, 2]]), False)

    def test_a_number_that_is_not_reached(self):
        flat = [("amount", 3), ("when", 2, 3, 0), ("when", 1, 3, 0)]
        self.assertIs(is_least_paper(flat, [made(flat, [])]), True)
        for rows in ([[], [1], [1, 2]], [[], [1, 2]], [[], [2], [1, 2]]):
            self.assertIs(is_least_paper(flat, [made(flat, places) for places in rows]), False)

    def test_a_number_that_an_elder_one_does_not_reach_in_the_tuple_before(self):
        flat = [("amount", 3), ("when", 0, 4, 0)]
        self.assertIs(is_least_paper(flat, [made(flat, [])]), True)
        self.assertIs(is_least_paper(flat, [made(flat, []), made(flat, [1])]), False)

    def test_the_number_of_the_condition_itself(self):
        flat = [("amount", 3), ("when", 0, 3, 0)]
        self.assertIs(is_least_paper(flat, [made(flat, []), made(flat, [1])]), True)
        flat = [("amount", None), ("when", 0, 999, 0)]
        self.assertIs(is_least_paper(flat, [made(flat, []), made(flat, [1])]), True)


class TestSpoiltTuples(unittest.TestCase):
    def check(self, at, row):
        paper = PAPER[:at] + [row] + PAPER[at + 1:]
        with self.subTest(at=at, row=row):
            self.assertIs(is_least_paper(FLAT, paper), False)

    def test_x_of_another_stage(self):
        for at in range(3):
            for other in range(3):
                if other != at:
                    self.check(at, with_list(PAPER[at], 1, PAPER[other][1]))

    def test_another_amount(self):
        for at in range(3):
            for cell in range(8):
                for value in (N, 0, 1, 5, 8, 10 ** 30):
                    if PAPER[at][1][cell] != value:
                        self.check(at, changed(PAPER[at], 1, cell, value))

    def test_amounts_of_another_length(self):
        for at in range(3):
            for told in (PAPER[at][1][:7], PAPER[at][1] + [0], PAPER[at][1] + [N], []):
                self.check(at, with_list(PAPER[at], 1, told))

    def test_ranks(self):
        for at, cell, value in [(0, 0, 1), (0, 0, N), (0, 1, N), (0, 1, -1), (0, 2, 0), (0, 2, 2), (0, 4, 0),
                                (0, 7, 1), (0, 7, 0), (1, 1, 1), (1, 1, 0), (2, 1, 5), (2, 7, 0), (2, 7, N)]:
            self.check(at, changed(PAPER[at], 2, cell, value))
        for at in range(3):
            self.check(at, with_list(PAPER[at], 2, PAPER[at][2][:7]))
            self.check(at, with_list(PAPER[at], 2, PAPER[at][2] + [0]))
            self.check(at, with_list(PAPER[at], 2, []))

    def test_choices(self):
        for at, cell, value in [(0, 2, N), (0, 2, 2), (0, 2, -1), (0, 4, 0), (0, 4, N), (0, 0, 0), (0, 1, 0), (0, 7, 0),
                                (1, 1, N), (1, 1, 1), (2, 2, 0), (2, 2, N), (2, 3, N), (2, 4, 0), (2, 5, 0)]:
            self.check(at, changed(PAPER[at], 3, cell, value))

    def test_choices_at_cells_that_are_not_endless_are_free_among_the_arcs(self):
        self.assertIs(is_least_paper(FLAT, [changed(FIRST, 3, 2, 1), SECOND, THIRD]), True)

    def test_potentials_that_are_too_great(self):
        for cell, value in [(1, -2), (2, -1), (3, 0), (4, -1)]:
            self.check(2, changed(THIRD, 4, cell, value))

    def test_potentials_at_other_cells_than_the_endless_ones(self):
        for at, cell, value in [(0, 4, N), (0, 0, 0), (0, 7, -3), (1, 1, -1), (2, 1, N), (2, 4, N), (2, 7, -9)]:
            self.check(at, changed(PAPER[at], 4, cell, value))

    def test_too_few_cells_are_endless(self):
        # The whole circle may have no potentials, but then its amounts are no solution, or it has no ranks.
        flat = [("greatest", [(0, 1)])]
        self.assertIs(is_least_paper(flat, [([], [N], [N], [0], [0])]), True)
        self.assertIs(is_least_paper(flat, [([], [N], [N], [0], [N])]), False)
        self.assertIs(is_least_paper(flat, [([], [0], [0], [0], [N])]), False)

    def test_too_many_cells_are_endless(self):
        flat = [("greatest", [(0, 0)])]
        self.assertIs(is_least_paper(flat, [([], [0], [0], [0], [N])]), True)
        self.assertIs(is_least_paper(flat, [([], [N], [N], [0], [0])]), False)
        self.assertIs(is_least_paper(flat, [([], [N], [N], [0], [N])]), False)
        self.assertIs(is_least_paper(flat, [([], [5], [0], [0], [N])]), False)

    def test_the_last_x_is_no_solution_of_the_flat_sheet(self):
        self.assertIs(is_least_paper(FLAT, PAPER[:1]), False)
        self.assertIs(is_least_paper(FLAT, PAPER[:2]), False)

    def test_tuples_that_are_left_out_or_stand_twice(self):
        self.assertIs(is_least_paper(FLAT, [FIRST, THIRD]), False)
        self.assertIs(is_least_paper(FLAT, [FIRST, FIRST, SECOND, THIRD]), False)
        self.assertIs(is_least_paper(FLAT, [FIRST, SECOND, THIRD, THIRD]), False)
        self.assertIs(is_least_paper(FLAT, [FIRST, SECOND, THIRD, SECOND]), False)


class TestWhatIsShown(unittest.TestCase):
    def test_a_paper_that_is_right_tells_the_least_solution(self):
        rng = random.Random(231)
        right = 0
        for _ in range(2000):
            flat = some_flat(rng, rng.randint(1, 4), most=2)
            paper = least_paper(flat)
            at = rng.randrange(len(paper))
            part = rng.randint(1, 4)
            paper[at] = changed(paper[at], part, rng.randrange(len(flat)), rng.choice([None, -1, 0, 1, 2]) if part > 1
                                else rng.choice([None, 0, 1, 2]))
            if is_least_paper(flat, paper):
                right += 1
                self.assertEqual(paper[-1][1], least_of_flat(flat))
        self.assertGreater(right, 100)


if __name__ == "__main__":
    unittest.main()
