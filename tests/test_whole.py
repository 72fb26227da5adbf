"""The document as a whole: sheets that go through several modules, one test for each way."""

import random
import unittest

from circlesettle.book import Book, replay
from circlesettle.checker import check, is_true, paper_of
from circlesettle.endless import conditions_of, endless_cells, opened
from circlesettle.flat import flat_form, is_flat_solution
from circlesettle.forms import form_of, form_value, is_form, same_formula
from circlesettle.goals import answers, is_missed, miss_of, need, set_input
from circlesettle.greatest import (
    flat_greatest, greatest_paper, greatest_solution, is_greatest_paper, stages_from_above,
)
from circlesettle.joining import fixed, in_order, joined, taken_out
from circlesettle.knots import hanging, knots_of, solved_by_knots, touched
from circlesettle.least import flat_least, is_least_paper, least_paper, least_solution, stages_from_below
from circlesettle.reading import read_sheet
from circlesettle.rounds import from_above, from_below, is_high, is_low, settled_from_above, settled_from_below
from circlesettle.sheets import cells_in, check_sheet, is_solution, value_of, values_of
from circlesettle.strategies import best_choice, is_best, put_in, steps_of
from circlesettle.writing import write_sheet
from reference import greatest_of_sheet, least_of_sheet, some_sheet

N = None
TEXT = """least 2 more 1 cell 0 amount 5
greatest 2 cell 2 amount 3
more -2 cell 1
when 0 5 more 1 least 2 cell 3 cell 0
cell 4
amount endless
greatest 2 more -4 cell 5 more 2 cell 6
"""
SHEET = [
    ("least", [("more", ("cell", 0), 1), ("amount", 5)]), ("greatest", [("cell", 2), ("amount", 3)]), ("more", ("cell", 1), -2),
    ("when", 0, 5, ("more", ("least", [("cell", 3), ("cell", 0)]), 1)), ("cell", 4), ("amount", N),
    ("greatest", [("more", ("cell", 5), -4), ("more", ("cell", 6), 2)]),
]
FLAT = [
    ("least", [(0, 1), (7, 0)]), ("greatest", [(2, 0), (8, 0)]), ("greatest", [(1, -2)]), ("when", 0, 5, 9),
    ("greatest", [(4, 0)]), ("amount", N), ("greatest", [(5, -4), (6, 2)]), ("amount", 5), ("amount", 3),
    ("greatest", [(10, 1)]), ("least", [(3, 0), (0, 0)]),
]
LEAST = [5, 3, 1, 6, 0, N, N]
GREATEST = [5, N, N, 6, N, N, N]


class TestOneSheet(unittest.TestCase):
    def test_written_and_read_back(self):
        self.assertEqual(read_sheet(TEXT), SHEET)
        self.assertEqual(write_sheet(SHEET), TEXT)
        self.assertIsNone(check_sheet(SHEET))

    def test_the_flat_form(self):
        self.assertEqual(flat_form(read_sheet(TEXT)), FLAT)

    def test_the_solutions(self):
        self.assertEqual(least_solution(SHEET), LEAST)
        self.assertEqual(greatest_solution(SHEET), GREATEST)
        self.assertEqual(flat_least(FLAT)[:7], LEAST)
        self.assertEqual(flat_greatest(FLAT)[:7], GREATEST)
        for x in (LEAST, GREATEST):
            self.assertTrue(is_solution(SHEET, x))

    def test_rounds(self):
        settled = settled_from_below(FLAT, rounds=60)
        self.assertEqual(from_below(FLAT, rounds=settled), flat_least(FLAT))
        settled = settled_from_above(FLAT, rounds=60)
        self.assertEqual(from_above(FLAT, rounds=settled), flat_greatest(FLAT))
        self.assertTrue(is_low(FLAT, from_below(FLAT, rounds=3)))
        self.assertTrue(is_high(FLAT, from_above(FLAT, rounds=3)))

    def test_the_stages(self):
        self.assertEqual([places for places, _ in stages_from_below(FLAT)], [[], [3]])
        self.assertEqual([places for places, _ in stages_from_above(FLAT)], [[3]])
        self.assertEqual(endless_cells(opened(FLAT, [3])), [5, 6])

    def test_the_papers(self):
        self.assertTrue(is_least_paper(FLAT, least_paper(FLAT)))
        self.assertTrue(is_greatest_paper(FLAT, greatest_paper(FLAT)))

    def test_claims(self):
        for claim, truth in [
            (("least", LEAST), True), (("greatest", GREATEST), True), (("least", GREATEST), False), (("only", LEAST), False),
            (("at_least", 3, 6), True), (("at_least", 3, 7), False), (("at_most", 3, 6), True), (("at_most", 4, 900), False),
            (("at_most", 4, N), True),
        ]:
            self.assertIs(is_true(SHEET, claim), truth)
            paper = paper_of(SHEET, claim)
            self.assertIs(check(SHEET, claim, paper) if truth else paper is not N, truth)

    def test_knots(self):
        self.assertEqual(knots_of(FLAT), [[4], [5], [6], [7], [0], [3, 9, 10], [8], [1, 2]])
        self.assertEqual(touched(FLAT, 7), [0, 3, 7, 9, 10])
        self.assertEqual(solved_by_knots(FLAT, greatest=False)[:7], LEAST)
        self.assertEqual(solved_by_knots(FLAT, greatest=True)[:7], GREATEST)

    def test_forms(self):
        self.assertEqual(form_of(SHEET[0]), [(5, [(0, 1)])])
        self.assertEqual(form_of(SHEET[1]), [(3, []), (N, [(2, 0)])])
        self.assertEqual(form_of(SHEET[6]), [(N, [(5, -4)]), (N, [(6, 2)])])
        self.assertEqual(form_of(SHEET[3][3]), [(N, [(0, 1), (3, 1)])])
        for x in (LEAST, GREATEST):
            self.assertEqual([form_value(form_of(SHEET[cell]), x) for cell in (0, 1, 2, 4, 5, 6)],
                             [x[cell] for cell in (0, 1, 2, 4, 5, 6)])

    def test_goals(self):
        self.assertEqual(need(FLAT, 7, cell=3, goal=6), 5)
        self.assertEqual(answers(FLAT, 7, cell=3, most=8), [(0, 0), (5, 6), (6, 7), (7, 8), (8, 9)])
        x = miss_of(FLAT, 7, cell=3, goal=6, amount=4)
        self.assertTrue(is_missed(FLAT, 7, cell=3, goal=6, amount=4, x=x))

    def test_choices(self):
        plain = opened(FLAT, [3])
        x = flat_least(FLAT)
        first = best_choice(plain, kind="greatest")
        self.assertTrue(is_best(plain, first, kind="greatest"))
        second = best_choice(plain, kind="least")
        self.assertEqual(flat_least(put_in(put_in(plain, first, kind="greatest"), second, kind="least")), x)
        choice = [len(formula[1]) - 1 if formula[0] == "greatest" else N for formula in plain]
        self.assertEqual(steps_of(plain, choice)[-1][1], x)

    def test_the_same_sheet_in_a_book(self):
        book = Book()
        names = ["a", "b", "c", "d", "e", "f", "g"]
        for name in names:
            book.put(name, ("cell", name))
        book.put("a", ("least", [("more", ("cell", "a"), 1), ("amount", 5)]))
        book.put("b", ("greatest", [("cell", "c"), ("amount", 3)]))
        book.put("c", ("more", ("cell", "b"), -2))
        book.put("d", ("when", "a", 5, ("more", ("least", [("cell", "d"), ("cell", "a")]), 1)))
        book.put("f", ("amount", N))
        book.put("g", ("greatest", [("more", ("cell", "f"), -4), ("more", ("cell", "g"), 2)]))
        self.assertEqual(book.sheet(), SHEET)
        self.assertEqual([book.least(name) for name in names], LEAST)
        self.assertEqual([book.greatest(name) for name in names], GREATEST)
        self.assertEqual(replay(book.journal()).sheet(), SHEET)

    def test_the_same_sheet_in_another_order(self):
        order = [6, 3, 1, 0, 5, 4, 2]
        other = in_order(SHEET, order)
        self.assertEqual(least_solution(other), [LEAST[cell] for cell in order])
        self.assertEqual(greatest_solution(other), [GREATEST[cell] for cell in order])
        self.assertEqual(read_sheet(write_sheet(other)), other)


class TestSomeSheets(unittest.TestCase):
    """What holds for every sheet, module by module."""

    def sheets(self, seed, many, depth=3):
        rng = random.Random(seed)
        for _ in range(many):
            sheet = some_sheet(rng, rng.randint(1, 5), depth, most=2)
            with self.subTest(sheet=sheet):
                yield rng, sheet

    def test_texts_flat_forms_and_solutions(self):
        for _, sheet in self.sheets(1, 60):
            same = read_sheet(write_sheet(sheet))
            self.assertEqual(same, sheet)
            flat = flat_form(same)
            low, high = flat_least(flat), flat_greatest(flat)
            self.assertTrue(is_flat_solution(flat, low) and is_flat_solution(flat, high))
            self.assertEqual((low[:len(sheet)], high[:len(sheet)]), (least_of_sheet(sheet), greatest_of_sheet(sheet)))
            self.assertEqual((least_solution(sheet), greatest_solution(sheet)), (low[:len(sheet)], high[:len(sheet)]))
            self.assertEqual(values_of(sheet, low[:len(sheet)]), low[:len(sheet)])

    def test_papers_and_claims(self):
        for _, sheet in self.sheets(2, 60):
            flat = flat_form(sheet)
            low, high = least_solution(sheet), greatest_solution(sheet)
            self.assertTrue(check(sheet, ("least", low), least_paper(flat)))
            self.assertTrue(check(sheet, ("greatest", high), greatest_paper(flat)))
            self.assertIs(is_true(sheet, ("only", low)), low == high)
            for cell in range(len(sheet)):
                self.assertTrue(check(sheet, ("at_least", cell, low[cell]), least_paper(flat)))
                self.assertTrue(check(sheet, ("at_most", cell, high[cell]), greatest_paper(flat)))

    def test_stages_and_rounds(self):
        for _, sheet in self.sheets(3, 60):
            flat = flat_form(sheet)
            self.assertEqual(stages_from_below(flat)[-1][1], flat_least(flat))
            self.assertEqual(stages_from_above(flat)[-1][1], flat_greatest(flat))
            self.assertEqual(stages_from_above(flat)[0][0], conditions_of(flat))
            settled = settled_from_below(flat, rounds=200)
            if settled is not None:
                self.assertEqual(from_below(flat, rounds=settled), flat_least(flat))
            settled = settled_from_above(flat, rounds=200)
            self.assertEqual(from_above(flat, rounds=settled), flat_greatest(flat))

    def test_knots_and_goals(self):
        for rng, sheet in self.sheets(4, 60):
            flat = flat_form(sheet)
            self.assertEqual(solved_by_knots(flat, greatest=False), flat_least(flat))
            self.assertEqual(solved_by_knots(flat, greatest=True), flat_greatest(flat))
            for cell, formula in enumerate(flat):
                if formula[0] == "amount":
                    other = flat_least(set_input(flat, cell, 7))
                    changed = [at for at, amount in enumerate(flat_least(flat)) if other[at] != amount]
                    self.assertLessEqual(set(changed), set(hanging(flat, cell)) | {cell})
                    number = need(flat, cell, cell=0, goal=3)
                    reached = flat_least(set_input(flat, cell, 10 ** 9))[0]
                    self.assertEqual(number is not None, reached is None or reached >= 3)

    def test_forms_and_solutions(self):
        for rng, sheet in self.sheets(5, 60):
            for cell, formula in enumerate(sheet):
                if "when" not in str(formula):
                    self.assertTrue(is_form(form_of(formula)))
                    again = ("least", [formula, ("greatest", [formula, formula])])
                    self.assertTrue(same_formula(formula, again))
                    other = sheet[:cell] + [again] + sheet[cell + 1:]
                    self.assertEqual(least_solution(other), least_solution(sheet))
                    self.assertEqual(greatest_solution(other), greatest_solution(sheet))
                    self.assertEqual(form_value(form_of(formula), least_solution(sheet)), least_solution(sheet)[cell])

    def test_choices_of_the_sheet_with_the_conditions_of_its_last_stage_open(self):
        for rng, sheet in self.sheets(6, 60):
            flat = flat_form(sheet)
            places, x = stages_from_below(flat)[-1]
            plain = opened(flat, places)
            for kind in ("least", "greatest"):
                choice = best_choice(plain, kind=kind)
                self.assertEqual(flat_least(put_in(plain, choice, kind=kind)), x)
            choice = [rng.randrange(len(formula[1])) if formula[0] == "greatest" else N for formula in plain]
            self.assertEqual(steps_of(plain, choice)[-1][1], x)

    def test_books_joined_sheets_and_orders(self):
        for rng, sheet in self.sheets(7, 60, depth=2):
            book = Book()
            names = [f"n{cell}" for cell in range(len(sheet))]
            deeds = [("put", name, ("amount", 0)) for name in names]
            deeds += [("put", name, self.named(formula, names)) for name, formula in zip(names, sheet)]
            book.do_all(deeds)
            low, high = least_solution(sheet), greatest_solution(sheet)
            self.assertEqual(book.sheet(), sheet)
            self.assertEqual(book.what_if([]), list(zip(names, low, high)))
            order = rng.sample(range(len(sheet)), len(sheet))
            self.assertEqual(least_solution(in_order(sheet, order)), [low[cell] for cell in order])
            twice = joined(sheet, [("amount", 0), ("more", ("cell", 0), 3)], links=[(0, 0)])
            self.assertEqual(greatest_solution(twice)[:-1], high + high[:1])
            self.assertEqual(least_solution(twice)[:-1], low + low[:1])
            self.assertEqual(taken_out(twice, len(sheet)), sheet + [("more", ("cell", 0), 3)])
            self.assertEqual(least_solution(fixed(sheet, 0, low[0])), low)
            self.assertEqual(cells_in(book.formula(names[0])), [names[cell] for cell in cells_in(sheet[0])])
            self.assertEqual(value_of(sheet[0], high), high[0])

    def named(self, formula, names):
        word = formula[0]
        if word == "amount":
            return formula
        if word == "cell":
            return (word, names[formula[1]])
        if word == "more":
            return (word, self.named(formula[1], names), formula[2])
        if word == "when":
            return (word, names[formula[1]], formula[2], self.named(formula[3], names))
        return (word, [self.named(inner, names) for inner in formula[1]])


if __name__ == "__main__":
    unittest.main()
