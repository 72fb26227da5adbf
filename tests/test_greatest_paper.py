"""Point 33: papers for the greatest solution, right ones and ones with one thing spoilt."""

import random
import unittest

from circlesettle.flat import is_flat_solution
from circlesettle.greatest import greatest_paper, held_ranks, is_greatest_paper, stages_from_above, tight_ranks
from reference import greatest_of_flat, open_sheet, some_flat

N = None
FLAT = [("amount", 2), ("when", 0, 3, 4), ("when", 1, 1, 4), ("when", 4, 5, 5), ("amount", 5),
        ("greatest", [(5, -1), (0, 0)]), ("least", [(7, 0), (4, 3)]), ("greatest", [(6, -1)]),
        ("least", [(2, 0), (9, 2), (5, 0)]), ("greatest", [(8, -1), (0, 0)])]
FIRST = ([1, 2, 3], [2, 5, 5, N, 5, N, 0, 0, 5, 4], [0, 1, 1, N, 0, N, 1, 2, 2, 3], [0, 1, 1, N, 0, N, 2, 1, 2, 3])
SECOND = ([2, 3], [2, 0, 5, N, 5, N, 0, 0, 5, 4], [0, 0, 1, N, 0, N, 1, 2, 2, 3], [0, 0, 1, N, 0, N, 2, 1, 2, 3])
THIRD = ([3], [2, 0, 0, N, 5, N, 0, 0, 0, 2], [0, 0, 0, N, 0, N, 1, 2, 1, 2], [0, 0, 0, N, 0, N, 2, 1, 1, 1])
PAPER = [FIRST, SECOND, THIRD]


def changed(row, part, cell, value):
    """The tuple with another value at one place of one of its lists."""
    lists = [list(each) for each in row]
    lists[part][cell] = value
    return tuple(lists)


def with_list(row, part, told):
    return tuple(told if at == part else each for at, each in enumerate(row))


def made(flat, places):
    """The tuple of a paper for these open conditions, each one being right for its own plain flat sheet."""
    plain = open_sheet(flat, places)
    x = greatest_of_flat(plain)
    return (places, x, held_ranks(plain), tight_ranks(plain, x))


class TestRightPapers(unittest.TestCase):
    def test_one_made_by_hand(self):
        self.assertIs(is_greatest_paper(FLAT, PAPER), True)
        self.assertEqual(PAPER[-1][1], greatest_of_flat(FLAT))
        self.assertEqual(greatest_paper(FLAT), PAPER)

    def test_several_stages_may_be_one_or_more(self):
        flat = [("amount", 1), ("when", 0, 2, 0), ("when", 0, 3, 0), ("when", 0, 4, 0)]
        for rows in ([[1, 2, 3], []], [[1, 2, 3], [2], []], [[1, 2, 3], [1, 2], [1], []], [[1, 2, 3], [2, 3], [3], []]):
            with self.subTest(rows=rows):
                self.assertIs(is_greatest_paper(flat, [made(flat, places) for places in rows]), True)

    def test_sheets_with_one_stage(self):
        self.assertIs(is_greatest_paper([("amount", 4)], [([], [4], [0], [0])]), True)
        self.assertIs(is_greatest_paper([("amount", N)], [([], [N], [N], [N])]), True)
        self.assertIs(is_greatest_paper([("when", 0, 5, 0)], [([0], [N], [7], [N])]), True)

    def test_other_ranks_than_the_made_ones(self):
        row = (THIRD[0], THIRD[1], [3, 4, 5, 8, 3, N, 6, 9, 7, 8], [3, 4, 5, 8, 9, N, 11, 10, 6, 7])
        self.assertIs(is_greatest_paper(FLAT, [FIRST, SECOND, row]), True)

    def test_made_papers(self):
        rng = random.Random(33)
        for _ in range(300):
            flat = some_flat(rng, rng.randint(1, 8), most=rng.choice([1, 3, 999]))
            paper = greatest_paper(flat)
            with self.subTest(flat=flat):
                self.assertIs(is_greatest_paper(flat, paper), True)
                self.assertEqual([(row[0], row[1]) for row in paper], stages_from_above(flat))
                self.assertEqual({type(row) for row in paper}, {tuple})
                self.assertEqual({len(row) for row in paper}, {4})


class TestWrongOpen(unittest.TestCase):
    FLAT = [("amount", 1), ("when", 0, 2, 0), ("when", 0, 3, 0), ("when", 0, 4, 0), ("least", [(1, 0), (0, 0)])]

    def check(self, rows):
        return is_greatest_paper(self.FLAT, [made(self.FLAT, places) for places in rows])

    def test_the_empty_list(self):
        self.assertIs(is_greatest_paper(self.FLAT, []), False)
        self.assertIs(is_greatest_paper([("amount", 0)], []), False)

    def test_the_first_open_is_not_all(self):
        self.assertIs(self.check([[]]), False)
        self.assertIs(self.check([[2, 3], []]), False)
        self.assertIs(self.check([[1, 3, 2], []]), False)
        self.assertIs(self.check([[1, 1, 2, 3], []]), False)
        self.assertIs(self.check([[1, 2, 3], []]), True)
        self.assertIs(is_greatest_paper(self.FLAT, [with_list(made(self.FLAT, [1, 2, 3]), 0, [0, 1, 2, 3]),
                                                    made(self.FLAT, [])]), False)

    def test_one_that_was_closed_is_open_again(self):
        self.assertIs(self.check([[1, 2, 3], [1], [2], []]), False)
        self.assertIs(self.check([[1, 2, 3], [1, 2], [2, 3], []]), False)
        self.assertIs(self.check([[1, 2, 3], [], [1], []]), False)

    def test_none_is_closed(self):
        self.assertIs(self.check([[1, 2, 3], [1, 2, 3], []]), False)
        self.assertIs(self.check([[1, 2, 3], [2], [2], []]), False)
        self.assertIs(self.check([[1, 2, 3], [], []]), False)

    def test_it_is_not_ascending_or_has_one_twice(self):
        for places in ([2, 1], [3, 1], [1, 1], [2, 2, 3], [3, 3]):
            with self.subTest(places=places):
                self.assertIs(self.check([[1, 2, 3], places, []]), False)

    def test_a_cell_that_is_no_condition(self):
        for places in ([0], [0, 1], [1, 4], [4], [5], [-1], [-4, 1], [10 ** 30], [-3]):
            row = with_list(made(self.FLAT, [cell for cell in places if cell in (1, 2, 3)]), 0, places)
            with self.subTest(places=places):
                self.assertIs(is_greatest_paper(self.FLAT, [made(self.FLAT, [1, 2, 3]), row, made(self.FLAT, [])]), False)

    def test_the_last_one_has_too_many(self):
        self.assertIs(self.check([[1, 2, 3]]), False)
        self.assertIs(self.check([[1, 2, 3], [3]]), False)

    def test_a_number_that_is_reached(self):
        flat = [("amount", 3), ("when", 2, 3, 0), ("when", 1, 3, 0), ("when", 0, 4, 0)]
        self.assertIs(is_greatest_paper(flat, [made(flat, [1, 2, 3]), made(flat, [1, 2])]), True)
        for rows in ([[1, 2, 3], []], [[1, 2, 3], [1], []], [[1, 2, 3], [1, 2], []], [[1, 2, 3], [1, 2], [2], []]):
            with self.subTest(rows=rows):
                self.assertIs(is_greatest_paper(flat, [made(flat, places) for places in rows]), False)
        # Without the two conditions the amounts are a solution of the flat sheet, but not the greatest one.
        self.assertTrue(is_flat_solution(flat, made(flat, [])[1]))

    def test_the_number_of_the_condition_itself(self):
        flat = [("amount", 3), ("when", 0, 3, 0)]
        self.assertIs(is_greatest_paper(flat, [made(flat, [1])]), True)
        self.assertIs(is_greatest_paper(flat, [made(flat, [1]), made(flat, [])]), False)
        flat = [("amount", 3), ("when", 0, 4, 0)]
        self.assertIs(is_greatest_paper(flat, [made(flat, [1])]), False)
        self.assertIs(is_greatest_paper(flat, [made(flat, [1]), made(flat, [])]), True)

    def test_a_number_that_is_missed_later_alone(self):
        # In the first tuple the condition 2 still has its number: it may be closed only in the one behind.
        rows = [[1, 2, 3], [3]]
        self.assertIs(is_greatest_paper(FLAT, [made(FLAT, places) for places in rows]), False)
        rows = [[1, 2, 3], [1, 3], [3]]
        self.assertIs(is_greatest_paper(FLAT, [made(FLAT, places) for places in rows]), False)


class TestSpoiltTuples(unittest.TestCase):
    def check(self, at, row):
        paper = PAPER[:at] + [row] + PAPER[at + 1:]
        with self.subTest(at=at, row=row):
            self.assertIs(is_greatest_paper(FLAT, paper), False)

    def test_x_of_another_stage(self):
        for at in range(3):
            for other in range(3):
                if other != at:
                    self.check(at, with_list(PAPER[at], 1, PAPER[other][1]))

    def test_another_amount(self):
        for at in range(3):
            for cell in range(10):
                for value in (N, 0, 1, 5, 10 ** 30):
                    if PAPER[at][1][cell] != value:
                        self.check(at, changed(PAPER[at], 1, cell, value))

    def test_held_ranks(self):
        for at, cell, value in [(0, 0, N), (0, 1, 0), (0, 6, 0), (0, 7, 1), (0, 8, 1), (0, 9, 2), (0, 9, N), (1, 1, N),
                                (1, 2, 0), (2, 8, 0), (2, 9, 1), (2, 2, N)]:
            self.check(at, changed(PAPER[at], 2, cell, value))

    def test_tight_ranks(self):
        for at, cell, value in [(0, 0, N), (0, 1, 0), (0, 6, 1), (0, 7, N), (0, 8, 1), (0, 9, 2), (0, 9, N), (1, 1, N),
                                (1, 2, 0), (2, 8, 0), (2, 9, 0), (2, 2, N)]:
            self.check(at, changed(PAPER[at], 3, cell, value))

    def test_lists_of_another_length(self):
        for at in range(3):
            for part in (1, 2, 3):
                for told in (PAPER[at][part][:9], PAPER[at][part] + [0], PAPER[at][part] + [N], []):
                    self.check(at, with_list(PAPER[at], part, told))

    def test_a_lesser_solution_of_the_plain_sheet(self):
        flat = [("least", [(0, 0), (1, 0)]), ("amount", 4)]
        self.assertIs(is_greatest_paper(flat, [([], [4, 4], [1, 0], [1, 0])]), True)
        self.assertIs(is_greatest_paper(flat, [([], [3, 4], [1, 0], [1, 0])]), False)

    def test_tuples_that_are_left_out_or_stand_twice(self):
        for paper in ([FIRST], [FIRST, SECOND], [SECOND, THIRD], [THIRD], [FIRST, THIRD], [FIRST, FIRST, SECOND, THIRD],
                      [FIRST, SECOND, THIRD, THIRD], [FIRST, SECOND, THIRD, SECOND], [THIRD, SECOND, FIRST]):
            self.assertIs(is_greatest_paper(FLAT, paper), False)


class TestWhatIsShown(unittest.TestCase):
    def test_a_paper_that_is_right_tells_the_greatest_solution(self):
        rng = random.Random(331)
        right = 0
        for _ in range(2000):
            flat = some_flat(rng, rng.randint(1, 4), most=2)
            paper = greatest_paper(flat)
            at = rng.randrange(len(paper))
            paper[at] = changed(paper[at], rng.randint(1, 3), rng.randrange(len(flat)), rng.choice([N, 0, 1, 2]))
            if is_greatest_paper(flat, paper):
                right += 1
                self.assertEqual(paper[-1][1], greatest_of_flat(flat))
        self.assertGreater(right, 100)


if __name__ == "__main__":
    unittest.main()
