"""Points 39 to 43: terms and their values, forms of formulas, and formulas with the same values."""

import itertools
import random
import unittest

from circlesettle.flat import flat_form
from circlesettle.forms import form_of, form_value, is_form, is_no_more, same_formula, telling, term_value
from circlesettle.greatest import flat_greatest, greatest_solution
from circlesettle.least import flat_least, least_solution
from circlesettle.sheets import value_of
from reference import (
    form_at, is_form_by_words, is_no_more_by_words, sheet_value_at, some_plain_formula, term_at,
)

N = None
FAR = 10 ** 30
A, B, C = ("cell", 0), ("cell", 1), ("cell", 2)


def more(formula, shift):
    return ("more", formula, shift)


def least(*formulas):
    return ("least", list(formulas))


def greatest(*formulas):
    return ("greatest", list(formulas))


def amount(number):
    return ("amount", number)


def grid(count, most):
    return [list(x) for x in itertools.product([*range(most), N], repeat=count)]


class TestTermValue(unittest.TestCase):
    def test_values(self):
        for term, x, value in [
            ((5, [(0, 1), (1, -2)]), [3, 9], 4), ((5, [(0, 1), (1, -2)]), [9, 9], 5),
            ((5, [(0, 1), (1, -2)]), [9, 6], 4), ((5, []), [1, 2], 5), ((N, []), [1, 2], N), ((N, []), [], N),
        ]:
            with self.subTest(term=term, x=x):
                self.assertEqual(term_value(term, x), value)

    def test_values_less_than_0(self):
        self.assertEqual(term_value((5, [(0, -4)]), [1]), -3)
        self.assertEqual(term_value((N, [(0, -4), (1, -9)]), [1, 0]), -9)
        self.assertEqual(term_value((3, [(1, -4)]), [N, 4]), 0)

    def test_none_for_the_limit_and_among_the_amounts(self):
        self.assertEqual(term_value((N, [(0, -4)]), [N]), N)
        self.assertEqual(term_value((N, [(0, -4), (1, 2)]), [N, 6]), 8)
        self.assertEqual(term_value((7, [(0, -4)]), [N]), 7)
        self.assertEqual(term_value((N, [(0, 3), (2, 5)]), [N, 4, N]), N)

    def test_numbers_of_any_size(self):
        self.assertEqual(term_value((FAR, [(0, FAR)]), [FAR]), FAR)
        self.assertEqual(term_value((3 * FAR, [(0, FAR)]), [FAR]), 2 * FAR)
        self.assertEqual(term_value((3, [(0, -FAR)]), [5]), 5 - FAR)

    def test_form_values(self):
        for form, x, value in [
            ([], [], 0), ([], [4], 0), ([(5, [(0, -4)])], [1], 0), ([(5, [(0, -4)])], [4], 0), ([(5, [(0, -4)])], [6], 2),
            ([(5, [(0, -4)]), (2, [])], [4], 2), ([(5, [(0, -4)]), (2, [])], [8], 4), ([(5, [(0, -4)]), (2, [])], [N], 5),
            ([(N, [(0, -4)]), (2, [])], [N], N), ([(3, []), (N, [(1, -2)])], [0, 4], 3), ([(N, [])], [0], N),
            ([(FAR, []), (N, [(0, FAR)])], [FAR], 2 * FAR),
        ]:
            with self.subTest(form=form, x=x):
                self.assertEqual(form_value(form, x), value)

    def test_some_terms(self):
        rng = random.Random(39)
        for _ in range(500):
            form = [some_term(rng, 3) for _ in range(rng.randint(0, 3))]
            x = [rng.choice([N, 0, 1, 2, 5]) for _ in range(3)]
            self.assertEqual(form_value(form, x), form_at(form, x))
            self.assertEqual([term_value(term, x) for term in form], [term_at(term, x) for term in form])


def some_term(rng, count):
    """A term as the interface says of `is_no_more`: its limit is not 0, and its arcs are less than the limit."""
    limit = rng.choice([N, 1, 2, 3])
    arcs = [(j, rng.randint(-2, 3)) for j in range(count) if rng.random() < 0.6]
    return (limit, [(j, c) for j, c in arcs if limit is None or c < limit])


class TestIsNoMore(unittest.TestCase):
    def test_by_their_limits(self):
        for first, second, answer in [(3, 4, True), (3, 3, True), (4, 3, False), (3, N, True), (N, 3, False), (N, N, True)]:
            self.assertIs(is_no_more((first, []), (second, [])), answer)

    def test_by_their_arcs(self):
        for arcs, others, answer in [
            ([(0, 1)], [(0, 2)], True), ([(0, 2)], [(0, 2)], True), ([(0, 3)], [(0, 2)], False), ([], [(0, 2)], False),
            ([(0, 1)], [], True), ([(1, 1)], [(0, 2)], False), ([(0, 1), (1, 5)], [(0, 2)], True),
            ([(0, 1), (1, 5)], [(0, 2), (1, 5)], True), ([(0, 1), (1, 5)], [(0, 2), (1, 4)], False),
            ([(0, 1)], [(0, 1), (1, 4)], False), ([(0, -9)], [(0, -8)], True), ([(0, -8)], [(0, -9)], False),
        ]:
            with self.subTest(arcs=arcs, others=others):
                self.assertIs(is_no_more((N, arcs), (N, others)), answer)

    def test_by_both(self):
        self.assertIs(is_no_more((7, [(0, 1)]), (8, [(0, 2)])), True)
        self.assertIs(is_no_more((9, [(0, 1)]), (8, [(0, 2)])), False)
        self.assertIs(is_no_more((7, [(0, 3)]), (8, [(0, 2)])), False)

    def test_by_the_limit_in_the_place_of_an_arc(self):
        self.assertIs(is_no_more((3, []), (8, [(0, 3)])), True)
        self.assertIs(is_no_more((3, []), (8, [(0, 4), (1, 7)])), True)
        self.assertIs(is_no_more((3, []), (8, [(0, 2)])), False)
        self.assertIs(is_no_more((3, [(1, 2)]), (N, [(0, 3), (1, 2)])), True)
        self.assertIs(is_no_more((3, [(1, 2)]), (N, [(0, 3), (1, 1)])), False)
        self.assertIs(is_no_more((3, [(1, 2)]), (N, [(0, 2), (1, 2)])), False)
        self.assertIs(is_no_more((N, [(1, 2)]), (N, [(0, 3), (1, 2)])), False)

    def test_numbers_of_any_size(self):
        self.assertIs(is_no_more((FAR, [(0, -FAR)]), (FAR + 1, [(0, -FAR), (1, FAR)])), True)
        self.assertIs(is_no_more((FAR, [(0, -FAR)]), (FAR + 1, [(0, -FAR - 1)])), False)

    def test_some_terms_at_all_small_amounts(self):
        rng = random.Random(40)
        points = grid(2, 8)
        right = 0
        for _ in range(2000):
            term, other = some_term(rng, 2), some_term(rng, 2)
            at_all = all(at_most(term_at(term, x), term_at(other, x)) for x in points)
            right += at_all
            with self.subTest(term=term, other=other):
                self.assertIs(is_no_more(term, other), at_all)
                self.assertIs(is_no_more_by_words(term, other), at_all)
        self.assertGreater(right, 200)


def at_most(a, b):
    return b is None or (a is not None and a <= b)


class TestFormOf(unittest.TestCase):
    def check(self, formula, form):
        with self.subTest(formula=formula):
            self.assertEqual(form_of(formula), form)
            self.assertTrue(is_form_by_words(form))

    def test_the_examples_of_the_document(self):
        self.check(more(more(B, -5), 3), [(3, []), (N, [(1, -2)])])
        self.check(least(amount(4), more(A, 5), greatest(B, amount(4))), [(4, [])])

    def test_amounts_and_cells(self):
        self.check(amount(0), [])
        self.check(amount(7), [(7, [])])
        self.check(amount(N), [(N, [])])
        self.check(("cell", 23), [(N, [(23, 0)])])

    def test_more(self):
        self.check(more(A, 0), [(N, [(0, 0)])])
        self.check(more(A, 4), [(N, [(0, 4)])])
        self.check(more(A, -4), [(N, [(0, -4)])])
        self.check(more(amount(3), -3), [])
        self.check(more(amount(3), -2), [(1, [])])
        self.check(more(amount(3), 2), [(5, [])])
        self.check(more(amount(0), 2), [(2, [])])
        self.check(more(amount(N), -999), [(N, [])])

    def test_shifts_of_either_sign_one_within_the_other(self):
        self.check(more(more(A, 3), -5), [(N, [(0, -2)])])
        self.check(more(more(A, -5), 5), [(5, []), (N, [(0, 0)])])
        self.check(more(more(more(A, -5), 3), -4), [(N, [(0, -6)])])
        self.check(more(more(more(A, -5), 3), -2), [(1, []), (N, [(0, -4)])])
        self.check(more(more(more(A, -5), 3), 2), [(5, []), (N, [(0, 0)])])
        self.check(more(more(more(more(A, -5), 3), -4), 2), [(2, []), (N, [(0, -4)])])
        self.check(more(more(least(A, amount(6)), -5), 3), [(3, []), (4, [(0, -2)])])
        self.check(more(more(least(A, amount(5)), -5), 3), [(3, [])])

    def test_greatest(self):
        self.check(greatest(B, A), [(N, [(0, 0)]), (N, [(1, 0)])])
        self.check(greatest(A, A), [(N, [(0, 0)])])
        self.check(greatest(A, more(A, -1)), [(N, [(0, 0)])])
        self.check(greatest(more(A, -1), A, amount(2)), [(2, []), (N, [(0, 0)])])
        self.check(greatest(A, amount(N), B), [(N, [])])
        self.check(greatest(A, amount(0)), [(N, [(0, 0)])])
        self.check(greatest(more(A, 3), amount(3)), [(N, [(0, 3)])])
        self.check(greatest(more(A, 3), amount(4)), [(4, []), (N, [(0, 3)])])
        self.check(greatest(more(A, 3)), [(N, [(0, 3)])])

    def test_least(self):
        self.check(least(B, A), [(N, [(0, 0), (1, 0)])])
        self.check(least(more(A, 1), A, more(A, 3)), [(N, [(0, 0)])])
        self.check(least(A, amount(0)), [])
        self.check(least(A, amount(N)), [(N, [(0, 0)])])
        self.check(least(more(A, 3), amount(3)), [(3, [])])
        self.check(least(more(A, 3), amount(4)), [(4, [(0, 3)])])
        self.check(least(more(B, -2), amount(9), more(A, 8), more(C, 9)), [(9, [(0, 8), (1, -2)])])

    def test_least_over_greatest(self):
        self.check(least(greatest(A, B), greatest(B, C)), [(N, [(0, 0), (2, 0)]), (N, [(1, 0)])])
        self.check(least(greatest(A, amount(3)), greatest(B, amount(5))),
                   [(3, []), (5, [(0, 0)]), (N, [(0, 0), (1, 0)])])
        self.check(least(greatest(A, amount(3)), amount(7), greatest(more(A, 2), B)),
                   [(7, [(0, 0)]), (3, [(0, 2)]), (3, [(1, 0)])])

    def test_greatest_over_least(self):
        self.check(greatest(least(A, B), least(B, C), B), [(N, [(1, 0)])])
        self.check(greatest(least(A, amount(4)), least(more(A, -2), amount(9))), [(9, [(0, -2)]), (4, [(0, 0)])])
        self.check(greatest(least(A, amount(4)), least(more(A, -2), amount(3))), [(4, [(0, 0)])])

    def test_shifts_over_both(self):
        self.check(more(greatest(least(A, B), amount(2)), -2), [(N, [(0, -2), (1, -2)])])
        self.check(more(greatest(least(A, amount(5)), amount(3)), -2), [(1, []), (3, [(0, -2)])])
        self.check(more(least(greatest(more(A, -3), amount(1)), B), 2), [(N, [(0, -1), (1, 2)]), (3, [(1, 2)])])

    def test_what_is_always_0(self):
        for formula in (more(amount(999), -999), least(more(least(A, amount(5)), -5), B), greatest(amount(0), amount(0)),
                        more(more(more(amount(0), 3), -4), 0), least(more(A, -9), amount(0))):
            self.check(formula, [])

    def test_what_is_always_none(self):
        for formula in (more(more(amount(N), -9), 3), least(amount(N), greatest(amount(N), A)), greatest(A, amount(N)),
                        least(amount(N)), least(greatest(A, amount(N)), more(amount(N), -1))):
            self.check(formula, [(N, [])])

    def test_the_order_of_the_terms(self):
        formula = greatest(more(C, -9), least(A, C), more(A, -5), least(more(A, -6), more(B, 3)), least(B, C), amount(1))
        self.check(formula, [(1, []), (N, [(0, -5)]), (N, [(0, 0), (2, 0)]), (N, [(1, 0), (2, 0)]), (N, [(2, -9)])])

    def test_the_most_terms_that_20_parts_have(self):
        formula = least(*[greatest(*[("cell", 4 * group + at) for at in range(many)])
                          for group, many in enumerate([4, 4, 4, 3])])
        form = form_of(formula)
        self.assertEqual(len(form), 192)
        self.assertTrue(is_form(form))
        self.assertEqual(form[0], (N, [(0, 0), (4, 0), (8, 0), (12, 0)]))
        shifted = least(*[greatest(*[more(("cell", at), group) for at in range(4)]) for group in range(2)])
        self.assertEqual(form_of(shifted), sorted([(N, [(0, 0)]), (N, [(1, 0)]), (N, [(2, 0)]), (N, [(3, 0)])]))

    def test_somewhat_more_parts(self):
        formula = least(*[greatest(*[more(("cell", 4 * group + at), group - at) for at in range(4)]) for group in range(4)])
        self.assertEqual(len(form_of(formula)), 256)
        deep = A
        for at in range(60):
            deep = more(deep, 1 if at < 30 else -1)
        self.assertEqual(form_of(deep), [(N, [(0, 0)])])
        deep = A
        for at in range(60):
            deep = more(deep, -1 if at < 30 else 1)
        self.assertEqual(form_of(deep), [(30, []), (N, [(0, 0)])])

    def test_some_formulas_have_forms_with_their_values(self):
        rng = random.Random(41)
        sizes = set()
        for _ in range(2500):
            formula, parts = some_plain_formula(rng, 3, 20)
            self.assertLessEqual(parts, 20)
            form = form_of(formula)
            sizes.add(len(form))
            with self.subTest(formula=formula):
                self.assertTrue(is_form_by_words(form))
                self.assertIs(is_form(form), True)
                for _ in range(12):
                    x = [rng.choice([N, 0, 0, 1, 2, 3, 4, 5, 9, 30]) for _ in range(3)]
                    self.assertEqual(form_at(form, x), sheet_value_at(formula, x))
                    self.assertEqual(form_value(form, x), value_of(formula, x))
        self.assertGreater(len(sizes), 4)


class TestIsForm(unittest.TestCase):
    FORM = [(2, []), (9, [(0, -5), (2, 3)]), (N, [(0, -1), (1, 0)]), (7, [(1, -4)])]

    def test_forms(self):
        for form in (self.FORM, [], [(N, [])], [(1, [])], [(1, [(0, 0)])], [(N, [(0, 5)])], [(4, [(0, -2)]), (3, [(0, -1)])],
                     [(5, [(0, 1), (1, 4)])], [(1, []), (2, [(0, 0)])],
                     [(N, [(0, 0), (1, 0)]), (5, [(0, 0), (2, 0)])], [(FAR, [(0, -FAR)]), (3, [(0, 2 - FAR), (1, 0)])]):
            with self.subTest(form=form):
                self.assertTrue(is_form_by_words(form))
                self.assertIs(is_form(form), True)

    def test_one_thing_spoilt(self):
        for form in (
            [(0, [])], [(0, [(0, -3)])], [(0, []), *self.FORM[1:]],
            [(2, []), (9, [(0, -5), (2, 9)]), *self.FORM[2:]], [(2, []), (9, [(0, -5), (2, 10)]), *self.FORM[2:]],
            [(1, [(0, 1)])], [(1, [(0, 0), (1, 1)])], [(3, [(0, 4)])],
            [(2, []), (2, [(0, -5), (2, 1)]), *self.FORM[2:]], [(2, []), (1, [(0, -3)])],
            [(N, []), (7, [(1, -4)])], [(N, [(0, -5)]), (N, [(0, -5), (1, 0)])], [(N, [(0, 0)]), (N, [(0, 1)])],
            [(4, [(0, -2)]), (3, [(0, -2)])], [(3, [(0, -2)]), (3, [(0, -1)])],
            [(2, []), (2, [])], [self.FORM[2], self.FORM[2]], [*self.FORM, self.FORM[3]], [(N, []), (N, [])],
            [(2, []), (9, [(2, 3), (0, -5)]), *self.FORM[2:]], [(N, [(1, 0), (0, 0)])],
            [self.FORM[1], self.FORM[0], *self.FORM[2:]], self.FORM[::-1], [*self.FORM[:2], self.FORM[3], self.FORM[2]],
            [(3, [(0, -1)]), (4, [(0, -2)])],
            [(2, []), (9, [(0, -5), (0, -4), (2, 3)]), *self.FORM[2:]], [(N, [(0, 0), (0, 0)])], [(N, [(0, 1), (0, 2)])],
            [(9, [(0, -5), (2, 3), (2, 4)])],
        ):
            with self.subTest(form=form):
                self.assertFalse(is_form_by_words(form))
                self.assertIs(is_form(form), False)

    def test_some_lists_of_terms(self):
        rng = random.Random(42)
        right = 0
        for _ in range(3000):
            form = []
            for _ in range(rng.randint(0, 3)):
                arcs = [(rng.randrange(3), rng.randint(-2, 2)) for _ in range(rng.choice([0, 1, 1, 2]))]
                form.append((rng.choice([N, N, 0, 1, 2, 3]), sorted(arcs) if rng.random() < 0.9 else arcs))
            if rng.random() < 0.9:
                form.sort(key=lambda term: term[1])
            answer = is_form_by_words(form)
            right += answer
            with self.subTest(form=form):
                self.assertIs(is_form(form), answer)
        self.assertTrue(500 < right < 2500)


class TestSameFormula(unittest.TestCase):
    def check(self, first, second, same):
        with self.subTest(first=first, second=second):
            self.assertIs(same_formula(first, second), same)
            self.assertIs(same_formula(second, first), same)
            for one, other in ((first, second), (second, first)):
                for count in (3, 5):
                    x = telling(one, other, count=count)
                    if same:
                        self.assertIsNone(x)
                    else:
                        self.assertEqual(len(x), count)
                        self.assertTrue(all(a is None or (type(a) is int and a >= 0) for a in x))
                        self.assertNotEqual(sheet_value_at(one, x), sheet_value_at(other, x))

    def test_with_the_same_form(self):
        self.check(A, A, True)
        self.check(more(A, 0), least(A, amount(N)), True)
        self.check(greatest(A, B), greatest(B, A, more(B, -3)), True)
        self.check(least(A, greatest(B, C)), greatest(least(A, B), least(C, A)), True)
        self.check(more(more(A, -4), 4), greatest(A, amount(4)), True)
        self.check(more(more(A, 4), -4), A, True)
        self.check(least(more(A, 3), amount(3)), amount(3), True)
        self.check(more(least(A, amount(6)), -6), amount(0), True)
        self.check(more(amount(N), -4), amount(N), True)

    def test_with_forms_that_are_nearly_the_same(self):
        self.check(A, B, False)
        self.check(A, more(A, 1), False)
        self.check(more(A, -4), more(A, -5), False)
        self.check(more(more(A, -4), 4), greatest(A, amount(3)), False)
        self.check(more(more(A, -4), 4), A, False)
        self.check(least(A, amount(999)), A, False)
        self.check(least(A, amount(999)), least(A, amount(998)), False)
        self.check(greatest(A, amount(1)), A, False)
        self.check(greatest(A, B, C), greatest(A, B), False)
        self.check(least(A, B, C), least(A, B), False)
        self.check(least(A, greatest(B, C)), greatest(A, least(B, C)), False)
        self.check(least(A, greatest(B, C)), greatest(least(A, B), C), False)
        self.check(least(more(A, -999), amount(1)), amount(0), False)
        self.check(amount(0), amount(1), False)
        self.check(amount(N), amount(999), False)
        self.check(amount(N), greatest(A, B), False)
        self.check(greatest(least(A, amount(4)), least(more(A, -2), amount(9))), least(A, amount(9)), False)

    def test_some_pairs_at_all_small_amounts(self):
        rng = random.Random(43)
        points = grid(2, 9)
        by_values = {}
        for _ in range(4000):
            formula, _ = some_plain_formula(rng, 2, rng.randint(1, 7), most=2)
            values = tuple(sheet_value_at(formula, x) for x in points)
            form = form_of(formula)
            # One form for each list of values, and one list of values for each form.
            self.assertEqual(by_values.setdefault(values, (form, formula))[0], form)
        forms = [form for form, _ in by_values.values()]
        self.assertEqual(len(forms), len({str(form) for form in forms}))
        self.assertGreater(len(forms), 100)
        formulas = [formula for _, formula in by_values.values()]
        for _ in range(1500):
            first, second = rng.choice(formulas), rng.choice(formulas)
            self.check(first, second, first == second)


class TestTelling(unittest.TestCase):
    def test_a_count_beyond_the_cells(self):
        for count in (3, 4, 24, 100):
            x = telling(least(A, C), C, count=count)
            self.assertEqual(len(x), count)
            self.assertNotEqual(value_of(least(A, C), x), value_of(C, x))
            self.assertIsNone(telling(least(C, A), least(A, C), count=count))

    def test_no_cells_at_all(self):
        self.assertEqual(telling(amount(3), amount(4), count=0), [])
        self.assertIsNone(telling(amount(3), more(amount(4), -1), count=0))
        self.assertEqual(len(telling(amount(3), amount(N), count=2)), 2)

    def test_amounts_beyond_999(self):
        first, second = more(more(more(A, -999), -999), -999), amount(0)
        x = telling(first, second, count=1)
        self.assertNotEqual(value_of(first, x), 0)
        self.assertTrue(x[0] is None or x[0] > 2997)
        first = greatest(more(more(B, 999), 999), A)
        second = greatest(more(more(B, 999), 998), A, amount(1998))
        x = telling(first, second, count=2)
        self.assertNotEqual(value_of(first, x), value_of(second, x))

    def test_a_number_tells_where_none_does_not(self):
        first, second = least(A, more(B, 1)), least(A, B)
        x = telling(first, second, count=2)
        self.assertNotEqual(value_of(first, x), value_of(second, x))
        x = telling(A, more(A, -1), count=1)
        self.assertNotEqual(value_of(A, x), value_of(more(A, -1), x))

    def test_some_large_formulas(self):
        rng = random.Random(44)
        told = 0
        for _ in range(600):
            first, _ = some_plain_formula(rng, 4, 20, most=999)
            second, _ = some_plain_formula(rng, 4, 20, most=999)
            x = telling(first, second, count=4)
            if x is None:
                self.assertTrue(same_formula(first, second))
            else:
                told += 1
                self.assertFalse(same_formula(first, second))
                self.assertNotEqual(sheet_value_at(first, x), sheet_value_at(second, x))
        self.assertGreater(told, 300)


def from_form(form):
    """A formula that has this form, made term by term."""
    terms = []
    for limit, arcs in form:
        terms.append(("least", [amount(limit)] + [more(("cell", j), c) for j, c in arcs]))
    return ("greatest", terms) if terms else amount(0)


class TestSheetsOfTheSameForms(unittest.TestCase):
    def test_solutions_stay_if_formulas_are_replaced_by_others_with_the_same_form(self):
        rng = random.Random(45)
        other_flat = 0
        for _ in range(300):
            count = rng.randint(1, 5)
            sheet = [some_plain_formula(rng, count, 8)[0] for _ in range(count)]
            other = [from_form(form_of(formula)) for formula in sheet]
            with self.subTest(sheet=sheet):
                self.assertTrue(all(same_formula(a, b) for a, b in zip(sheet, other)))
                self.assertEqual(least_solution(sheet), least_solution(other))
                self.assertEqual(greatest_solution(sheet), greatest_solution(other))
                first, second = flat_form(sheet), flat_form(other)
                self.assertEqual(flat_least(first)[:count], flat_least(second)[:count])
                self.assertEqual(flat_greatest(first)[:count], flat_greatest(second)[:count])
                other_flat += first != second
        self.assertGreater(other_flat, 200)


if __name__ == "__main__":
    unittest.main()
