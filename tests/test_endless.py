"""Points 24, 25 and 26: conditions, plain sheets with some open, endless cells, choices and potentials."""

import copy
import random
import unittest

from circlesettle.endless import conditions_of, endless_cells, endless_paper, opened, shows_endless
from reference import all_choices, least_of_flat, open_sheet, some_flat

EXAMPLE = [("greatest", [(1, -2)]), ("least", [(0, 3), (2, 0)]), ("greatest", [(1, 5)])]


class TestConditions(unittest.TestCase):
    FLAT = [("when", 3, 2, 3), ("least", [(0, 1)]), ("when", 1, 5, 1), ("amount", 4), ("when", 4, 1, 0)]

    def test_conditions_of(self):
        self.assertEqual(conditions_of(self.FLAT), [0, 2, 4])
        self.assertEqual(conditions_of(EXAMPLE), [])
        self.assertEqual(conditions_of([("when", 0, 1, 0)]), [0])

    def test_the_example_of_the_document(self):
        self.assertEqual(opened([("amount", 3), ("when", 0, 2, 0), ("when", 0, 5, 1)], [1]),
                         [("amount", 3), ("greatest", [(0, 0)]), ("amount", 0)])

    def test_none_open(self):
        self.assertEqual(opened(self.FLAT, []),
                         [("amount", 0), ("least", [(0, 1)]), ("amount", 0), ("amount", 4), ("amount", 0)])

    def test_all_open_in_any_order(self):
        whole = [("greatest", [(3, 0)]), ("least", [(0, 1)]), ("greatest", [(1, 0)]), ("amount", 4),
                 ("greatest", [(0, 0)])]
        for places in ([0, 2, 4], [4, 2, 0], [2, 0, 4]):
            self.assertEqual(opened(self.FLAT, places), whole)

    def test_some_open_in_any_order(self):
        for places in ([0, 4], [4, 0]):
            self.assertEqual(opened(self.FLAT, places), [("greatest", [(3, 0)]), ("least", [(0, 1)]), ("amount", 0),
                                                         ("amount", 4), ("greatest", [(0, 0)])])

    def test_a_sheet_without_conditions(self):
        self.assertEqual(opened(EXAMPLE, []), EXAMPLE)

    def test_answers_are_new(self):
        flat = copy.deepcopy(self.FLAT)
        places = [4, 0]
        conditions_of(flat).clear()
        first = opened(flat, places)
        first[1][1].clear()
        first[0][1].clear()
        first.clear()
        self.assertEqual((flat, places), (self.FLAT, [4, 0]))
        self.assertEqual(opened(flat, places)[1], ("least", [(0, 1)]))


class TestEndlessCells(unittest.TestCase):
    def test_the_example_of_the_document(self):
        self.assertEqual(endless_cells(EXAMPLE), [0, 1, 2])

    def test_amounts(self):
        self.assertEqual(endless_cells([("amount", 3), ("amount", None), ("amount", 0)]), [1])

    def test_what_leads_to_an_endless_amount(self):
        flat = [("least", [(1, 0), (2, 0)]), ("amount", None), ("amount", 4), ("greatest", [(1, -9), (2, 0)]),
                ("least", [(1, -9)]), ("least", [(4, 3), (3, 0)])]
        self.assertEqual(endless_cells(flat), [1, 3, 4, 5])

    def test_circles_with_shifts_above_at_and_below_0(self):
        for shifts, endless in [((1, 0), True), ((999, -998), True), ((0, 0), False), ((5, -5), False),
                                ((3, -4), False), ((-999, 999), False)]:
            for word in ("least", "greatest"):
                with self.subTest(shifts=shifts, word=word):
                    flat = [(word, [(1, shifts[0])]), (word, [(0, shifts[1])]), ("amount", 1)]
                    self.assertEqual(endless_cells(flat), [0, 1] if endless else [])

    def test_least_goes_round_in_the_better_circle(self):
        self.assertEqual(endless_cells([("least", [(0, 1), (1, 5)]), ("greatest", [(0, -5)])]), [])
        self.assertEqual(endless_cells([("least", [(0, 1), (1, 5)]), ("greatest", [(0, -4)])]), [0, 1])

    def test_greatest_goes_round_in_the_better_circle(self):
        self.assertEqual(endless_cells([("greatest", [(0, 0), (1, 5)]), ("greatest", [(0, -5)])]), [])
        self.assertEqual(endless_cells([("greatest", [(0, 0), (1, 5)]), ("greatest", [(0, -4)])]), [0, 1])

    def test_an_amount_limits_the_circle(self):
        self.assertEqual(endless_cells([("least", [(0, 1), (1, 0)]), ("amount", 999)]), [])
        self.assertEqual(endless_cells([("greatest", [(0, 1), (1, 0)]), ("amount", 999)]), [0])

    def test_some_sheets(self):
        rng = random.Random(25)
        for _ in range(500):
            plain = some_flat(rng, rng.randint(1, 6), whens=False)
            x = least_of_flat(plain)
            with self.subTest(plain=plain):
                self.assertEqual(endless_cells(plain), [cell for cell in range(len(plain)) if x[cell] is None])


class TestEndlessPaper(unittest.TestCase):
    def check(self, plain):
        choices, potentials = endless_paper(plain)
        self.assertIsInstance(endless_paper(plain), tuple)
        self.assertIs(shows_endless(plain, choices, potentials), True)
        self.assertEqual([cell for cell in range(len(plain)) if potentials[cell] is not None], endless_cells(plain))
        for formula, choice in zip(plain, choices):
            if formula[0] == "greatest":
                self.assertIn(choice, range(len(formula[1])))
            else:
                self.assertIsNone(choice)

    def test_sheets(self):
        self.check(EXAMPLE)
        self.check([("amount", 4)])
        self.check([("amount", None)])
        self.check([("greatest", [(0, 0), (0, 1)])])
        self.check([("greatest", [(1, 0), (0, 1)]), ("greatest", [(0, 0), (2, 0)]), ("amount", 7)])
        self.check([("least", [(1, -999)]), ("least", [(2, 0)]), ("amount", None)])

    def test_a_circle_is_left_where_an_arc_leads_to_an_endless_amount(self):
        self.check([("greatest", [(1, 0), (2, 0)]), ("greatest", [(0, 0)]), ("greatest", [(2, 1), (0, 0)])])

    def test_some_sheets(self):
        rng = random.Random(26)
        for count in (2, 3, 5, 8):
            for _ in range(200):
                self.check(some_flat(rng, count, most=rng.choice([1, 3, 999]), whens=False))


class TestShowsEndless(unittest.TestCase):
    # Cell 0 and 1 go round with shifts of together 1, cell 2 is one of the least, cell 3 is no part of it.
    PLAIN = [("greatest", [(3, 0), (1, 3)]), ("least", [(0, -2)]), ("least", [(0, 1), (1, 0)]),
             ("greatest", [(3, 0), (4, 0)]), ("amount", 6), ("amount", None)]
    CHOICES = [1, None, None, 0, None, None]
    # n is 4: the bounds are p0 - p1 <= 11, p1 - p0 <= -9, p2 - p0 <= 3, p2 - p1 <= -1.
    POTENTIALS = [10, 0, -1, None, None, 5]

    def shown(self, choices=None, potentials=None, plain=None):
        return shows_endless(plain or self.PLAIN, self.CHOICES if choices is None else choices,
                             self.POTENTIALS if potentials is None else potentials)

    def test_right_ones(self):
        self.assertIs(self.shown(), True)
        self.assertIs(self.shown(potentials=[11, 0, -1, None, None, -100]), True)
        self.assertIs(self.shown(potentials=[10, -1, -2, None, None, 0]), True)
        self.assertIs(self.shown(potentials=[10, 0, -999, None, None, 5]), True)

    def test_potentials_far_from_0(self):
        for far in (10 ** 40, -10 ** 40):
            self.assertIs(self.shown(potentials=[10 + far, far, far - 1, None, None, 0]), True)
            self.assertIs(self.shown(potentials=[12 + far, far, far - 1, None, None, 0]), False)

    def test_no_potentials_at_all(self):
        self.assertIs(self.shown(potentials=[None] * 6), True)
        self.assertIs(self.shown(potentials=[None] * 6, choices=[0, None, None, 1, None, None]), True)

    def test_fewer_potentials_have_a_lesser_n(self):
        # n is 2: the bounds are p0 - p1 <= 5, p1 - p0 <= -5.
        self.assertIs(self.shown(potentials=[5, 0, None, None, None, None]), True)
        self.assertIs(self.shown(potentials=[10, 0, None, None, None, None]), False)
        self.assertIs(self.shown(potentials=[None, None, None, None, None, 7]), True)
        # n is 3: p0 - p1 <= 8, p1 - p0 <= -7.
        self.assertIs(self.shown(potentials=[8, 0, None, None, None, 7]), True)
        self.assertIs(self.shown(potentials=[7, 0, None, None, None, 7]), True)
        self.assertIs(self.shown(potentials=[6, 0, None, None, None, 7]), False)
        self.assertIs(self.shown(potentials=[9, 0, None, None, None, 7]), False)

    def test_each_bound_by_itself(self):
        for potentials in ([12, 0, -1, None, None, 5], [8, 0, -1, None, None, 5], [10, 0, 0, None, None, 5],
                           [11, 1, 1, None, None, 5]):
            with self.subTest(potentials=potentials):
                self.assertIs(self.shown(potentials=potentials), False)

    def test_the_told_arc_leads_to_a_cell_without_potential(self):
        self.assertIs(self.shown(choices=[0, None, None, 0, None, None]), False)

    def test_an_arc_of_least_leads_to_a_cell_without_potential(self):
        plain = list(self.PLAIN)
        plain[2] = ("least", [(0, 1), (4, 0)])
        self.assertIs(self.shown(plain=plain), False)
        self.assertIs(self.shown(plain=plain, potentials=[5, 0, None, None, None, None]), True)

    def test_a_number_has_a_potential(self):
        self.assertIs(self.shown(potentials=[None, None, None, None, 1, None]), False)
        self.assertIs(self.shown(plain=[("amount", 0)], choices=[None], potentials=[3]), False)
        self.assertIs(self.shown(plain=[("amount", None)], choices=[None], potentials=[3]), True)

    def test_a_circle_that_does_not_gain(self):
        self.assertIs(shows_endless([("greatest", [(0, 0)])], [0], [0]), False)
        self.assertIs(shows_endless([("greatest", [(0, 1)])], [0], [0]), True)
        self.assertIs(shows_endless([("least", [(0, 1)])], [None], [-7]), True)
        self.assertIs(shows_endless([("least", [(0, 1), (0, 0)])], [None], [0]), False)
        self.assertIs(shows_endless([("greatest", [(0, 1), (0, 0)])], [1], [0]), False)
        self.assertIs(shows_endless([("greatest", [(0, 0), (0, 1)])], [1], [0]), True)

    def test_what_are_no_choices_of_greatest(self):
        for choices in ([2, None, None, 0, None, None], [-1, None, None, 0, None, None],
                        [10 ** 30, None, None, 0, None, None], [None, None, None, 0, None, None],
                        [1, 0, None, 0, None, None], [1, None, 0, 0, None, None], [1, None, None, 0, 0, None],
                        [1, None, None, 0, None, 0], [1, None, None, 0, None], [1, None, None, 0, None, None, None],
                        []):
            with self.subTest(choices=choices):
                self.assertIs(self.shown(choices=choices), False)

    def test_choices_count_at_cells_without_a_potential_too(self):
        for last in (None, 2, -1):
            choices = [1, None, None, last, None, None]
            self.assertIs(self.shown(choices=choices), False)
            self.assertIs(self.shown(choices=choices, potentials=[None] * 6), False)

    def test_lists_of_potentials_of_another_length(self):
        self.assertIs(self.shown(potentials=self.POTENTIALS[:5]), False)
        self.assertIs(self.shown(potentials=self.POTENTIALS + [None]), False)
        self.assertIs(self.shown(potentials=[]), False)

    def test_what_is_shown_is_so(self):
        rng = random.Random(27)
        shown = 0
        for _ in range(3000):
            plain = some_flat(rng, 3, most=2, whens=False)
            choices = rng.choice(all_choices(plain, "greatest"))
            potentials = [rng.choice([None, -3, -2, -1, 0, 1, 2, 3]) for _ in plain]
            if shows_endless(plain, choices, potentials):
                shown += 1
                for amount, potential in zip(least_of_flat(plain), potentials):
                    self.assertFalse(potential is not None and amount is not None)
        self.assertGreater(shown, 100)


class TestOpenSheets(unittest.TestCase):
    def test_opened_as_by_the_words_of_the_point(self):
        rng = random.Random(24)
        for _ in range(200):
            flat = some_flat(rng, 6)
            places = [cell for cell in conditions_of(flat) if rng.random() < 0.5]
            rng.shuffle(places)
            self.assertEqual(opened(flat, places), open_sheet(flat, places))


if __name__ == "__main__":
    unittest.main()
