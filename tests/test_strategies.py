"""Points 50 to 53: choices, sheets with choices put in, best choices, and steps to them."""

import random
import unittest

from circlesettle.least import flat_least
from circlesettle.strategies import best_choice, better, is_best, is_choice, put_in, steps_of
from reference import all_choices, least_of_flat, some_flat

N = None
LEAST, GREATEST = "least", "greatest"
PLAIN = [("least", [(1, 1), (4, 0)]), ("greatest", [(0, 0), (4, 2), (1, -1)]), ("least", [(5, 0)]),
         ("greatest", [(3, 0), (5, -5)]), ("amount", 6), ("amount", N)]
# The first cell goes round by its first arc, and comes out by its second one.
CIRCLE = [("greatest", [(1, 0), (2, 0)]), ("greatest", [(0, 0)]), ("amount", 5)]


def with_choice(flat, choice, kind):
    return [("greatest", [formula[1][told]]) if formula[0] == kind else formula for formula, told in zip(flat, choice)]


class TestIsChoice(unittest.TestCase):
    def test_choices_of_both_kinds(self):
        for choice in ([0, N, 0, N, N, N], [1, N, 0, N, N, N]):
            self.assertIs(is_choice(PLAIN, choice, kind=LEAST), True)
            self.assertIs(is_choice(PLAIN, choice, kind=GREATEST), False)
        for choice in ([N, 0, N, 0, N, N], [N, 1, N, 0, N, N], [N, 2, N, 1, N, N]):
            self.assertIs(is_choice(PLAIN, choice, kind=GREATEST), True)
            self.assertIs(is_choice(PLAIN, choice, kind=LEAST), False)

    def test_too_short_and_too_long(self):
        for choice in ([], [0], [0, N, 0, N, N], [0, N, 0, N, N, N, N], [0, N, 0, N, N, N, 0]):
            self.assertIs(is_choice(PLAIN, choice, kind=LEAST), False)
        for choice in ([], [N], [N, 0, N, 0, N], [N, 0, N, 0, N, N, N]):
            self.assertIs(is_choice(PLAIN, choice, kind=GREATEST), False)

    def test_a_number_that_is_no_place_of_an_arc(self):
        for choice in ([2, N, 0, N, N, N], [-1, N, 0, N, N, N], [0, N, 1, N, N, N], [10 ** 30, N, 0, N, N, N]):
            self.assertIs(is_choice(PLAIN, choice, kind=LEAST), False)
        for choice in ([N, 3, N, 0, N, N], [N, -1, N, 0, N, N], [N, 0, N, 2, N, N]):
            self.assertIs(is_choice(PLAIN, choice, kind=GREATEST), False)

    def test_none_at_a_cell_of_the_kind(self):
        for choice in ([N, N, 0, N, N, N], [0, N, N, N, N, N], [N] * 6):
            self.assertIs(is_choice(PLAIN, choice, kind=LEAST), False)
        for choice in ([N, N, N, 0, N, N], [N, 0, N, N, N, N], [N] * 6):
            self.assertIs(is_choice(PLAIN, choice, kind=GREATEST), False)

    def test_a_number_at_another_cell(self):
        for at in (1, 3, 4, 5):
            choice = [0, N, 0, N, N, N]
            choice[at] = 0
            self.assertIs(is_choice(PLAIN, choice, kind=LEAST), False)
        for at in (0, 2, 4, 5):
            choice = [N, 0, N, 0, N, N]
            choice[at] = 0
            self.assertIs(is_choice(PLAIN, choice, kind=GREATEST), False)

    def test_no_cell_of_the_kind(self):
        flat = [("amount", 4), ("greatest", [(0, 0)])]
        self.assertIs(is_choice(flat, [N, N], kind=LEAST), True)
        self.assertIs(is_choice(flat, [N, 0], kind=LEAST), False)
        self.assertIs(is_choice(flat, [N, N], kind=GREATEST), False)


class TestPutIn(unittest.TestCase):
    def test_both_kinds(self):
        self.assertEqual(put_in(PLAIN, [1, N, 0, N, N, N], kind=LEAST), [
            ("greatest", [(4, 0)]), PLAIN[1], ("greatest", [(5, 0)])] + PLAIN[3:])
        self.assertEqual(put_in(PLAIN, [N, 2, N, 0, N, N], kind=GREATEST), [
            PLAIN[0], ("greatest", [(1, -1)]), PLAIN[2], ("greatest", [(3, 0)])] + PLAIN[4:])

    def test_the_one_after_the_other(self):
        first = put_in(PLAIN, [N, 1, N, 1, N, N], kind=GREATEST)
        self.assertEqual(put_in(first, [0, N, 0, N, N, N], kind=LEAST), [
            ("greatest", [(1, 1)]), ("greatest", [(4, 2)]), ("greatest", [(5, 0)]), ("greatest", [(5, -5)])] + PLAIN[4:])
        second = put_in(PLAIN, [0, N, 0, N, N, N], kind=LEAST)
        self.assertIs(is_choice(second, [N, 1, N, 1, N, N], kind=GREATEST), False)
        self.assertEqual(put_in(second, [0, 1, 0, 1, N, N], kind=GREATEST), put_in(first, [0, N, 0, N, N, N], kind=LEAST))

    def test_no_cell_of_the_kind(self):
        self.assertEqual(put_in(CIRCLE, [N, N, N], kind=LEAST), CIRCLE)

    def test_least_solutions_with_choices(self):
        rng = random.Random(51)
        for _ in range(150):
            flat = some_flat(rng, rng.randint(1, 5), whens=False)
            x = least_of_flat(flat)
            for kind in (LEAST, GREATEST):
                solutions = []
                for choice in all_choices(flat, kind):
                    self.assertTrue(is_choice(flat, choice, kind=kind))
                    self.assertEqual(put_in(flat, choice, kind=kind), with_choice(flat, choice, kind))
                    solutions.append(flat_least(put_in(flat, choice, kind=kind)))
                with self.subTest(flat=flat, kind=kind):
                    for at, amount in enumerate(x):
                        order = [N] if N in [each[at] for each in solutions] else []
                        numbers = sorted(each[at] for each in solutions if each[at] is not N)
                        self.assertEqual((numbers + order)[0 if kind == LEAST else -1], amount)


class TestIsBest(unittest.TestCase):
    def test_choices_of_least(self):
        flat = [("least", [(1, 0), (2, 0), (3, -2)]), ("amount", 7), ("amount", 4), ("amount", 6)]
        for told, answer in [(0, False), (1, True), (2, True)]:
            self.assertIs(is_best(flat, [told, N, N, N], kind=LEAST), answer)

    def test_the_circle_of_the_document(self):
        # Both arcs are tight at the least solution, but one of them goes round in the circle.
        self.assertEqual(flat_least(CIRCLE), [5, 5, 5])
        self.assertIs(is_best(CIRCLE, [0, 0, N], kind=GREATEST), False)
        self.assertIs(is_best(CIRCLE, [1, 0, N], kind=GREATEST), True)
        self.assertIs(is_best(CIRCLE, [N, N, N], kind=LEAST), True)

    def test_endless_cells(self):
        self.assertEqual(flat_least(PLAIN), [6, 8, N, N, 6, N])
        for choice, answer in [([N, 1, N, 1, N, N], True), ([N, 1, N, 0, N, N], False), ([N, 0, N, 1, N, N], False),
                               ([N, 2, N, 1, N, N], False)]:
            self.assertIs(is_best(PLAIN, choice, kind=GREATEST), answer)
        self.assertIs(is_best(PLAIN, [1, N, 0, N, N, N], kind=LEAST), True)
        self.assertIs(is_best(PLAIN, [0, N, 0, N, N, N], kind=LEAST), False)
        rising = [("greatest", [(0, 0), (0, 1)]), ("least", [(0, 0), (1, 1)])]
        self.assertIs(is_best(rising, [1, N], kind=GREATEST), True)
        self.assertIs(is_best(rising, [0, N], kind=GREATEST), False)
        self.assertIs(is_best(rising, [N, 1], kind=LEAST), True)
        self.assertIs(is_best(rising, [N, 0], kind=LEAST), True)

    def test_some_sheets(self):
        rng = random.Random(52)
        seen = {True: 0, False: 0}
        for _ in range(200):
            flat = some_flat(rng, rng.randint(1, 6), whens=False)
            for kind in (LEAST, GREATEST):
                choice = rng.choice(all_choices(flat, kind))
                answer = least_of_flat(with_choice(flat, choice, kind)) == least_of_flat(flat)
                seen[answer] += 1
                with self.subTest(flat=flat, choice=choice):
                    self.assertIs(is_best(flat, choice, kind=kind), answer)
        self.assertGreater(min(seen.values()), 30)


class TestBestChoice(unittest.TestCase):
    def check(self, flat):
        x = flat_least(flat)
        least, greatest = best_choice(flat, kind=LEAST), best_choice(flat, kind=GREATEST)
        with self.subTest(flat=flat):
            for kind, choice in ((LEAST, least), (GREATEST, greatest)):
                self.assertIs(is_choice(flat, choice, kind=kind), True)
                self.assertIs(is_best(flat, choice, kind=kind), True)
                self.assertEqual(flat_least(put_in(flat, choice, kind=kind)), x)
            # The one after the other: the cells that the first choice has changed have one arc.
            both = put_in(put_in(flat, greatest, kind=GREATEST), least, kind=LEAST)
            self.assertEqual(flat_least(both), x)
            first = put_in(flat, least, kind=LEAST)
            second = best_choice(first, kind=GREATEST)
            self.assertEqual(flat_least(put_in(first, second, kind=GREATEST)), x)
            whole = [told if formula[0] == GREATEST else 0 if formula[0] == LEAST else N
                     for told, formula in zip(greatest, flat)]
            self.assertEqual(flat_least(put_in(first, whole, kind=GREATEST)), x)

    def test_told_sheets(self):
        self.assertEqual(best_choice(CIRCLE, kind=GREATEST), [1, 0, N])
        self.assertEqual(best_choice(CIRCLE, kind=LEAST), [N, N, N])
        self.assertEqual(best_choice(PLAIN, kind=GREATEST), [N, 1, N, 1, N, N])
        self.assertEqual(best_choice(PLAIN, kind=LEAST), [1, N, 0, N, N, N])
        self.check(CIRCLE)
        self.check(PLAIN)
        self.check([("amount", 3)])

    def test_circles_with_and_without_gain(self):
        for shift in (-1, 0, 1):
            for word in (LEAST, GREATEST):
                self.check([(word, [(1, 0), (0, 0)]), ("greatest", [(0, shift), (2, 0), (1, 0)]), ("amount", 4)])

    def test_some_sheets(self):
        rng = random.Random(53)
        for _ in range(400):
            self.check(some_flat(rng, rng.randint(1, 9), most=rng.choice([1, 3]), whens=False))

    def test_600_cells(self):
        rng = random.Random(600)
        for most in (1, 999):
            flat = [("amount", 7)] + [(rng.choice([LEAST, GREATEST]), [(rng.randrange(600), rng.randint(-most, most))
                                                                      for _ in range(3)]) for _ in range(599)]
            self.check(flat)
        self.check([("greatest", [((cell + 1) % 600, 0), ((cell - 1) % 600, 0)]) for cell in range(599)] + [("amount", 9)])


class TestBetter(unittest.TestCase):
    FLAT = [("greatest", [(1, 0), (2, 1), (3, 0), (2, 0)]), ("greatest", [(3, -4), (2, -9)]), ("least", [(0, 0), (3, 0)]),
            ("amount", 4), ("greatest", [(3, 0), (5, 0), (5, 3)]), ("amount", N)]

    def test_several_cells_at_once(self):
        x = [0, 3, 5, 4, 0, N]
        self.assertEqual(better(self.FLAT, [0, 1, N, N, 0, N], x), [1, 1, N, N, 1, N])
        self.assertEqual(better(self.FLAT, [2, 0, N, N, 2, N], x), [1, 0, N, N, 2, N])

    def test_the_first_of_several_greatest_arcs(self):
        # At 9 the first and the third arc of cell 0 have the greatest value.
        self.assertEqual(better(self.FLAT, [3, 0, N, N, 1, N], [0, 9, 0, 9, 9, N])[0], 0)
        self.assertEqual(better(self.FLAT, [1, 0, N, N, 1, N], [0, 9, 8, 9, 9, N])[0], 1)
        self.assertEqual(better(self.FLAT, [3, 0, N, N, 1, N], [0, 9, 8, 9, 9, N])[0], 0)
        self.assertEqual(better(self.FLAT, [3, 0, N, N, 1, N], [0, 8, 8, 9, 9, N])[0], 1)
        self.assertEqual(better(self.FLAT, [2, 0, N, N, 0, N], [0, 9, 0, 9, 9, N]), [2, 0, N, N, 1, N])

    def test_one_that_stays(self):
        for x in ([0] * 6, [N] * 6):
            self.assertEqual(better(self.FLAT, [1, 1, N, N, 2, N], x), [1, 1, N, N, 2, N])
        # On the floor all values are 0.
        self.assertEqual(better(self.FLAT, [1, 1, N, N, 1, N], [0, 0, 0, 4, 0, N])[1], 1)
        self.assertEqual(better(self.FLAT, [1, 1, N, N, 1, N], [0, 0, 0, 5, 0, N])[1], 0)

    def test_amounts_of_any_size_and_none(self):
        far = 10 ** 30
        self.assertEqual(better(self.FLAT, [0, 0, N, N, 0, N], [0, far, far, far, 0, far]), [1, 0, N, N, 2, N])
        self.assertEqual(better(self.FLAT, [0, 0, N, N, 0, N], [0, far, N, far, 0, 5]), [1, 1, N, N, 0, N])
        self.assertEqual(better(self.FLAT, [3, 0, N, N, 0, N], [N, far, N, N, 0, N]), [3, 0, N, N, 0, N])
        self.assertEqual(better(self.FLAT, [0, 0, N, N, 0, N], [N, N, N, 3, 0, N]), [0, 1, N, N, 1, N])


class TestSteps(unittest.TestCase):
    def check(self, flat, choice):
        steps = steps_of(flat, choice)
        with self.subTest(flat=flat, choice=choice):
            self.assertEqual(steps[0][0], choice)
            for at, (told, x) in enumerate(steps):
                self.assertEqual(x, least_of_flat(with_choice(flat, told, GREATEST)))
                after = better(flat, told, x)
                if at + 1 < len(steps):
                    self.assertNotEqual(after, told)
                    self.assertEqual(steps[at + 1][0], after)
                else:
                    self.assertEqual(after, told)
            for (told, x), (after, y) in zip(steps, steps[1:]):
                for cell, (a, b) in enumerate(zip(x, y)):
                    grown = a is not N and (b is N or b > a)
                    self.assertTrue(grown if told[cell] != after[cell] else a == b or grown)
            self.assertEqual(steps[-1][1], least_of_flat(flat))
            self.assertIs(is_best(flat, steps[-1][0], kind=GREATEST), True)
        return len(steps)

    def test_the_circle_of_the_document(self):
        self.assertEqual(steps_of(CIRCLE, [0, 0, N]), [([0, 0, N], [0, 0, 5]), ([1, 0, N], [5, 5, 5])])
        self.assertEqual(steps_of(CIRCLE, [1, 0, N]), [([1, 0, N], [5, 5, 5])])

    def test_from_a_bad_choice_to_a_best_one(self):
        self.assertEqual(steps_of(PLAIN, [N, 0, N, 0, N, N]), [
            ([N, 0, N, 0, N, N], [6, 6, N, 0, 6, N]), ([N, 1, N, 1, N, N], [6, 8, N, N, 6, N])])
        flat = [("greatest", [(0, 0), (1, 0)]), ("greatest", [(1, 0), (2, 0)]), ("greatest", [(2, 0), (3, 0)]), ("amount", N)]
        self.assertEqual(steps_of(flat, [0, 0, 0, N]), [
            ([0, 0, 0, N], [0, 0, 0, N]), ([0, 0, 1, N], [0, 0, N, N]), ([0, 1, 1, N], [0, N, N, N]), ([1, 1, 1, N], [N] * 4)])

    def test_endless_by_a_circle(self):
        flat = [("greatest", [(2, 0), (1, 1)]), ("greatest", [(2, 0), (0, 0)]), ("amount", 3)]
        self.assertEqual(steps_of(flat, [0, 0, N]), [([0, 0, N], [3, 3, 3]), ([1, 0, N], [4, 3, 3]), ([1, 1, N], [N, N, 3])])

    def test_no_cell_of_the_kind(self):
        self.assertEqual(steps_of([("amount", 3), ("least", [(0, 1)])], [N, N]), [([N, N], [3, 4])])

    def test_some_sheets(self):
        rng = random.Random(54)
        most = 0
        for _ in range(300):
            flat = some_flat(rng, rng.randint(1, 9), most=rng.choice([1, 3]), whens=False)
            choice = [rng.randrange(len(formula[1])) if formula[0] == GREATEST else N for formula in flat]
            most = max(most, self.check(flat, choice))
        self.assertGreater(most, 3)

    def test_600_cells(self):
        flat = [("amount", 5)] + [("greatest", [(cell, 0), (cell - 1, 0)]) for cell in range(1, 101)]
        flat += [("greatest", [(cell - 1, 1)]) for cell in range(101, 600)]
        steps = steps_of(flat, [N] + [0] * 599)
        self.assertEqual(len(steps), 101)
        self.assertEqual(steps[-1], ([N] + [1] * 100 + [0] * 499, [5] * 101 + list(range(6, 505))))


if __name__ == "__main__":
    unittest.main()
