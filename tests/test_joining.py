"""Points 58 to 61: sheets joined by links, cells taken out, other orders, and fixed cells."""

import random
import unittest

from circlesettle.errors import BadLink, BadSize, CannotBeOut, NotInput, SheetError, TooDeep
from circlesettle.greatest import greatest_solution
from circlesettle.joining import fixed, in_order, joined, taken_out
from circlesettle.least import least_solution
from circlesettle.sheets import check_sheet, is_solution
from reference import greatest_of_sheet, least_of_sheet, sheet_value_at, some_sheet

N = None
FIVE = ("amount", 5)
FIRST = [("least", [("more", ("cell", 0), 1), ("amount", 9)]), ("when", 0, 4, ("cell", 1)), ("amount", 3)]
SECOND = [("amount", 1), ("greatest", [("cell", 0), ("more", ("cell", 2), -1)]), ("amount", N),
          ("when", 1, 2, ("least", [("cell", 3), ("cell", 2)]))]


def nested(inner, depth):
    for _ in range(depth):
        inner = ("more", inner, 1)
    return inner


class Joining(unittest.TestCase):
    def fails(self, error, call):
        with self.assertRaises(SheetError) as caught:
            call()
        self.assertIs(type(caught.exception), error)
        return caught.exception


class TestJoined(Joining):
    def test_no_link(self):
        self.assertEqual(joined(FIRST, SECOND, links=[]), FIRST + [
            ("amount", 1), ("greatest", [("cell", 3), ("more", ("cell", 5), -1)]), ("amount", N),
            ("when", 4, 2, ("least", [("cell", 6), ("cell", 5)]))])

    def test_one_link(self):
        self.assertEqual(joined(FIRST, SECOND, links=[(0, 2)]), FIRST + [
            ("cell", 2), ("greatest", [("cell", 3), ("more", ("cell", 5), -1)]), ("amount", N),
            ("when", 4, 2, ("least", [("cell", 6), ("cell", 5)]))])

    def test_several_links_and_a_source_that_is_linked_twice(self):
        for links in ([(0, 2), (2, 1)], [(2, 1), (0, 2)]):
            made = joined(FIRST, SECOND, links=links)
            self.assertEqual((made[3], made[5]), (("cell", 2), ("cell", 1)))
        made = joined(FIRST, SECOND, links=[(2, 0), (0, 0)])
        self.assertEqual(made[:3], FIRST)
        self.assertEqual((made[3], made[5]), (("cell", 0), ("cell", 0)))
        self.assertEqual(made[4], ("greatest", [("cell", 3), ("more", ("cell", 5), -1)]))

    def test_a_sheet_with_itself(self):
        sheet = [("amount", 4), ("more", ("cell", 0), 2)]
        made = joined(sheet, sheet, links=[(0, 1)])
        self.assertEqual(made, [("amount", 4), ("more", ("cell", 0), 2), ("cell", 1), ("more", ("cell", 2), 2)])
        self.assertEqual(least_solution(made), [4, 6, 6, 8])

    def test_what_is_no_cell(self):
        for links in ([(4, 0)], [(-1, 0)], [(0, 3)], [(0, -1)], [(True, 0)], [(False, 0)], [(0, True)], [(0, False)],
                      [(10 ** 30, 0)], [(0, 10 ** 30)], [(N, 0)], [(0, N)]):
            with self.subTest(links=links):
                self.fails(BadLink, lambda: joined(FIRST, SECOND, links=links))

    def test_an_input_that_stands_in_an_earlier_link(self):
        for links in ([(0, 1), (0, 1)], [(0, 1), (0, 2)], [(0, 1), (2, 1), (0, 0)], [(2, 1), (0, 1), (2, 1)]):
            with self.subTest(links=links):
                self.fails(BadLink, lambda: joined(FIRST, SECOND, links=links))

    def test_what_is_no_input(self):
        for links, cell in [([(1, 0)], 1), ([(3, 2)], 3), ([(0, 0), (3, 2)], 3), ([(3, 0), (1, 0)], 3), ([(1, 0), (3, 0)], 1)]:
            with self.subTest(links=links):
                self.assertEqual(self.fails(NotInput, lambda: joined(FIRST, SECOND, links=links)).cell, cell)

    def test_the_first_of_two_errors_counts(self):
        for links, error in [
            ([(1, 3)], BadLink), ([(1, -1)], BadLink), ([(1, True)], BadLink), ([(1, 0), (9, 0)], NotInput),
            ([(9, 0), (1, 0)], BadLink), ([(0, 0), (0, 0), (1, 0)], BadLink), ([(0, 0), (1, 0), (0, 0)], NotInput),
            ([(1, 0), (1, 0)], NotInput),
        ]:
            with self.subTest(links=links):
                self.fails(error, lambda: joined(FIRST, SECOND, links=links))

    def test_24_cells_together_and_one_more(self):
        large = [("amount", number) for number in range(20)]
        self.assertEqual(len(joined(large, SECOND, links=[(0, 19)])), 24)
        self.assertEqual(joined(large, SECOND, links=[(0, 19)])[20], ("cell", 19))
        self.assertEqual(len(joined(SECOND, large, links=[(19, 3)])), 24)
        self.fails(BadSize, lambda: joined(large + [FIVE], SECOND, links=[]))
        self.fails(BadSize, lambda: joined(SECOND, large + [FIVE], links=[(20, 0)]))
        self.fails(NotInput, lambda: joined(large + [FIVE], SECOND, links=[(1, 0)]))
        self.fails(BadLink, lambda: joined(large + [FIVE], SECOND, links=[(0, 21)]))
        self.fails(BadSize, lambda: joined(large + [FIVE], SECOND, links=[(0, 20)]))

    def test_solutions(self):
        rng = random.Random(58)
        linked = 0
        for _ in range(150):
            first, second = (some_sheet(rng, rng.randint(1, 4), 3, most=2) for _ in range(2))
            second = [rng.choice([formula, ("amount", rng.choice([N, 0, 1, 4]))]) for formula in second]
            inputs = [cell for cell, formula in enumerate(second) if formula[0] == "amount" and rng.random() < 0.8]
            links = [(cell, rng.randrange(len(first))) for cell in inputs]
            linked += len(links)
            made = joined(first, second, links=links)
            check_sheet(made)
            for solve, slow in ((least_solution, least_of_sheet), (greatest_solution, greatest_of_sheet)):
                x = solve(first)
                other = list(second)
                for cell, source in links:
                    other[cell] = ("amount", x[source])
                with self.subTest(first=first, second=second, links=links):
                    self.assertEqual(solve(made), x + solve(other))
                    self.assertEqual(solve(made), slow(made))
        self.assertGreater(linked, 50)


class TestTakenOut(Joining):
    def test_its_formula_stands_in_all_other_formulas(self):
        sheet = [("least", [("cell", 1), ("cell", 2), ("amount", 9)]), ("more", ("cell", 2), 3),
                 ("greatest", [("cell", 0), FIVE]), ("more", ("cell", 1), -1), ("cell", 1)]
        self.assertEqual(taken_out(sheet, 1), [
            ("least", [("more", ("cell", 1), 3), ("cell", 1), ("amount", 9)]), ("greatest", [("cell", 0), FIVE]),
            ("more", ("more", ("cell", 1), 3), -1), ("more", ("cell", 1), 3)])
        self.assertEqual(taken_out(sheet, 2), [
            ("least", [("cell", 1), ("greatest", [("cell", 0), FIVE]), ("amount", 9)]),
            ("more", ("greatest", [("cell", 0), FIVE]), 3), ("more", ("cell", 1), -1), ("cell", 1)])
        self.assertEqual(taken_out(sheet, 4), sheet[:4])

    def test_names_behind_it(self):
        sheet = [("when", 2, 3, ("cell", 3)), FIVE, ("greatest", [("cell", 2), ("cell", 1), ("cell", 0)]), ("cell", 2)]
        self.assertEqual(taken_out(sheet, 1), [
            ("when", 1, 3, ("cell", 2)), ("greatest", [("cell", 1), FIVE, ("cell", 0)]), ("cell", 1)])
        self.assertEqual(taken_out(sheet, 3), [("when", 2, 3, ("cell", 2)), FIVE, sheet[2]])
        self.assertEqual(taken_out([("cell", 1), ("cell", 2), FIVE], 0), [("cell", 1), FIVE])
        self.assertEqual(taken_out([("cell", 1), ("cell", 2), FIVE], 2), [("cell", 1), FIVE])

    def test_names_in_its_formula_are_moved_too(self):
        sheet = [("more", ("cell", 3), 1), ("least", [("cell", 0), ("cell", 0)]), ("cell", 0), ("amount", 4)]
        self.assertEqual(taken_out(sheet, 0), [("least", [("more", ("cell", 2), 1), ("more", ("cell", 2), 1)]),
                                               ("more", ("cell", 2), 1), ("amount", 4)])

    def test_a_cell_within_the_formula_of_when(self):
        sheet = [FIVE, ("when", 2, 3, ("least", [("cell", 0), ("cell", 2)])), ("amount", 4)]
        self.assertEqual(taken_out(sheet, 0), [("when", 1, 3, ("least", [FIVE, ("cell", 1)])), ("amount", 4)])
        self.assertEqual(taken_out(sheet, 1), [FIVE, ("amount", 4)])

    def test_cells_that_cannot_be_taken_out(self):
        for sheet, cell in [
            ([FIVE], 0), ([("cell", 0)], 0), ([("cell", 0), FIVE], 0), ([("more", ("cell", 0), 1), FIVE], 0),
            ([FIVE, ("least", [("cell", 0), ("more", ("cell", 1), 2)])], 1), ([("when", 0, 3, FIVE), FIVE], 0),
            ([("when", 1, 3, ("cell", 0)), FIVE], 0), ([("when", 1, 3, FIVE), FIVE], 1), ([FIVE, ("when", 0, 3, ("cell", 0))], 0),
            ([FIVE, ("least", [("cell", 0), ("greatest", [("when", 0, 3, FIVE)])])], 0),
            ([FIVE, ("least", [("cell", 1), ("when", 0, 3, FIVE)])], 0), ([("when", 1, 2, FIVE), ("when", 0, 2, FIVE)], 0),
        ]:
            with self.subTest(sheet=sheet, cell=cell):
                self.fails(CannotBeOut, lambda: taken_out(sheet, cell))

    def test_cells_on_circles_of_others_can_be_taken_out(self):
        sheet = [("more", ("cell", 1), 1), ("least", [("cell", 0), ("amount", 7)])]
        self.assertEqual(taken_out(sheet, 0), [("least", [("more", ("cell", 0), 1), ("amount", 7)])])
        self.assertEqual(taken_out(sheet, 1), [("more", ("least", [("cell", 0), ("amount", 7)]), 1)])

    def test_formulas_that_would_stand_too_deep_and_that_just_do_not(self):
        for inner, outer in [(0, 5), (1, 4), (2, 3), (5, 0)]:
            sheet = [nested(("cell", 1), outer), nested(FIVE, inner)]
            self.assertEqual(taken_out(sheet, 1), [nested(FIVE, 5)])
            if inner + outer == 5 and outer:
                deeper = [nested(("cell", 1), outer), nested(FIVE, inner + 1)]
                self.fails(TooDeep, lambda: taken_out(deeper, 1))
        wide = [("least", [nested(("cell", 2), 1), nested(("cell", 1), 3)]), nested(("amount", 2), 2), nested(("amount", 1), 3)]
        self.assertEqual(taken_out(wide, 2)[0], ("least", [nested(nested(("amount", 1), 3), 1), nested(("cell", 1), 3)]))
        self.fails(TooDeep, lambda: taken_out(wide, 1))
        whens = [("when", 0, 2, nested(("cell", 1), 4)), ("least", [FIVE]), FIVE]
        self.fails(TooDeep, lambda: taken_out(whens, 1))
        self.assertEqual(taken_out(whens, 2), whens[:2])
        last = [nested(("cell", 2), 4), nested(("cell", 2), 5), ("more", FIVE, 1)]
        self.fails(TooDeep, lambda: taken_out(last, 2))

    def test_a_deep_formula_that_is_not_used(self):
        sheet = [nested(FIVE, 5), ("amount", 3), nested(("amount", 3), 5)]
        self.assertEqual(taken_out(sheet, 0), sheet[1:])
        self.assertEqual(taken_out(sheet, 1), [sheet[0], sheet[2]])

    def test_the_first_of_two_errors_counts(self):
        sheet = [nested(("cell", 1), 5), ("more", ("cell", 1), 1)]
        self.fails(CannotBeOut, lambda: taken_out(sheet, 1))
        sheet = [("when", 1, 2, nested(("cell", 1), 4)), ("more", FIVE, 1)]
        self.fails(CannotBeOut, lambda: taken_out(sheet, 1))

    def test_solutions(self):
        rng = random.Random(59)
        done = [0, 0]
        while min(done) < 100:
            sheet = some_sheet(rng, rng.randint(2, 5), 2, most=2)
            cell = rng.randrange(len(sheet))
            try:
                made = taken_out(sheet, cell)
            except CannotBeOut:
                done[0] += 1
                continue
            done[1] += 1
            check_sheet(made)
            for solve, slow in ((least_solution, least_of_sheet), (greatest_solution, greatest_of_sheet)):
                x = solve(sheet)
                with self.subTest(sheet=sheet, cell=cell):
                    self.assertEqual(solve(made), x[:cell] + x[cell + 1:])
                    self.assertEqual(slow(made), slow(sheet)[:cell] + slow(sheet)[cell + 1:])
            x = [rng.choice([N, 0, 1, 2, 3]) for _ in sheet]
            x[cell] = sheet_value_at(sheet[cell], x)
            self.assertEqual(is_solution(made, x[:cell] + x[cell + 1:]), is_solution(sheet, x))


class TestInOrder(Joining):
    SHEET = [("least", [("cell", 2), ("cell", 0)]), ("when", 0, 3, ("more", ("cell", 2), 1)), ("amount", 4)]

    def test_orders(self):
        self.assertEqual(in_order(self.SHEET, [0, 1, 2]), self.SHEET)
        self.assertEqual(in_order(self.SHEET, [2, 0, 1]), [
            ("amount", 4), ("least", [("cell", 0), ("cell", 1)]), ("when", 1, 3, ("more", ("cell", 0), 1))])
        self.assertEqual(in_order(self.SHEET, [1, 2, 0]), [
            ("when", 2, 3, ("more", ("cell", 1), 1)), ("amount", 4), ("least", [("cell", 1), ("cell", 2)])])
        self.assertEqual(in_order([("cell", 0)], [0]), [("cell", 0)])

    def test_the_order_turned_back(self):
        self.assertEqual(in_order(in_order(self.SHEET, [2, 0, 1]), [1, 2, 0]), self.SHEET)

    def test_solutions(self):
        rng = random.Random(60)
        for _ in range(80):
            sheet = some_sheet(rng, rng.randint(1, 6), 2)
            order = list(range(len(sheet)))
            rng.shuffle(order)
            made = in_order(sheet, order)
            for solve in (least_solution, greatest_solution):
                x = solve(sheet)
                self.assertEqual(solve(made), [x[cell] for cell in order])

    def test_24_cells(self):
        sheet = [("more", ("cell", (cell + 1) % 24), cell) for cell in range(24)]
        made = in_order(sheet, list(range(23, -1, -1)))
        self.assertEqual(made, [("more", ("cell", (place - 1) % 24), 23 - place) for place in range(24)])


class TestFixed(Joining):
    SHEET = [("least", [("cell", 1), ("amount", 7)]), ("greatest", [("cell", 0), ("when", 2, 3, ("cell", 2))]), ("cell", 2)]

    def test_amounts(self):
        for amount in (N, 0, 1, 999):
            for cell in range(3):
                made = fixed(self.SHEET, cell, amount)
                self.assertEqual(made[cell], ("amount", amount))
                self.assertEqual(made[:cell] + made[cell + 1:], self.SHEET[:cell] + self.SHEET[cell + 1:])

    def test_solutions_of_fixed_sheets(self):
        self.assertEqual(least_solution(self.SHEET), [0, 0, 0])
        self.assertEqual(greatest_solution(self.SHEET), [7, N, N])
        self.assertEqual(least_solution(fixed(self.SHEET, 2, N)), [7, N, N])
        self.assertEqual(least_solution(fixed(self.SHEET, 2, 0)), [0, 0, 0])
        self.assertEqual(greatest_solution(fixed(self.SHEET, 2, 0)), [7, 7, 0])
        self.assertEqual(least_solution(fixed(self.SHEET, 2, 3)), [3, 3, 3])

    def test_fixed_at_the_amount_of_a_solution(self):
        rng = random.Random(61)
        for _ in range(120):
            sheet = some_sheet(rng, rng.randint(1, 5), 3, most=2)
            cell = rng.randrange(len(sheet))
            for solve in (least_solution, greatest_solution):
                x = solve(sheet)
                with self.subTest(sheet=sheet, cell=cell):
                    self.assertEqual(solve(fixed(sheet, cell, x[cell])), x)
                    before = None
                    for amount in (0, 1, 2, 5, 40, N):
                        after = solve(fixed(sheet, cell, amount))
                        self.assertTrue(before is None or all(b is N or (a is not N and a <= b) for a, b in zip(before, after)))
                        before = after


if __name__ == "__main__":
    unittest.main()
