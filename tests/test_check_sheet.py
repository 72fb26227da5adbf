"""Points 2, 3 and 6: the kinds of formulas, sheets, and the first error that is due."""

import copy
import unittest

from circlesettle.errors import BadAmount, BadCell, BadForm, BadShift, BadSize, SheetError, TooDeep
from circlesettle.sheets import check_sheet

GOOD = ("amount", 7)
NOT_WHOLE = (True, False, None, "1", "", b"1", 1.0, (1,), [1], {})

# Parts that are wrong in one way each, with the error that each of them asks for.
WRONG = [
    (("strange", 1), BadForm),
    (("amount", -1), BadAmount),
    (("cell", 99), BadCell),
    (("more", GOOD, 1000), BadShift),
    (("least", []), BadSize),
    (("greatest", [GOOD] * 7), BadSize),
    (("when", 99, 1, GOOD), BadCell),
    (("when", 0, 0, GOOD), BadAmount),
]


def within(part, many):
    """The part within so many others, by all the words that can stand around one."""
    around = [
        lambda f: ("more", f, 1),
        lambda f: ("least", [GOOD, f]),
        lambda f: ("when", 0, 1, f),
        lambda f: ("greatest", [f, GOOD]),
    ]
    for k in range(many):
        part = around[k % len(around)](part)
    return part


class CheckCase(unittest.TestCase):
    def assert_good(self, sheet):
        before = copy.deepcopy(sheet)
        self.assertIsNone(check_sheet(sheet))
        self.assertEqual(repr(sheet), repr(before))

    def assert_error(self, expected, sheet):
        before = copy.deepcopy(sheet)
        with self.assertRaises(ValueError) as caught:
            check_sheet(sheet)
        self.assertIs(caught.exception.__class__, expected)
        self.assertIsInstance(caught.exception, SheetError)
        self.assertEqual(repr(sheet), repr(before))


class TestGoodSheets(CheckCase):
    def test_one_cell_of_each_word(self):
        self.assert_good([("amount", 3)])
        self.assert_good([("amount", None)])
        self.assert_good([("cell", 0)])
        self.assert_good([("more", ("cell", 0), 1)])
        self.assert_good([("least", [("cell", 0), ("amount", 5)])])
        self.assert_good([("greatest", [("cell", 0), ("amount", 5)])])
        self.assert_good([("when", 0, 1, ("amount", 5))])

    def test_twenty_four_cells(self):
        self.assert_good([("cell", 23 - cell) for cell in range(24)])

    def test_a_part_within_exactly_five_others(self):
        for part in (("amount", 1), ("cell", 0)):
            with self.subTest(part=part):
                self.assert_good([within(part, 5)])

    def test_each_word_around_a_part_five_times(self):
        more, least, greatest, when = GOOD, GOOD, GOOD, GOOD
        for _ in range(5):
            more = ("more", more, -3)
            least = ("least", [least])
            greatest = ("greatest", [greatest])
            when = ("when", 0, 1, when)
        self.assert_good([more, least, greatest, when])

    def test_many_parts_are_no_error(self):
        formula = ("amount", 1)
        for _ in range(4):
            formula = ("least", [formula] * 6)
        self.assert_good([formula])


class TestSizesOfSheets(CheckCase):
    def test_no_cells(self):
        self.assert_error(BadSize, [])

    def test_twenty_five_cells(self):
        self.assert_error(BadSize, [GOOD] * 25)

    def test_the_size_is_due_before_the_formulas(self):
        for part, _ in WRONG:
            with self.subTest(part=part):
                self.assert_error(BadSize, [part] * 25)


class TestDepth(CheckCase):
    def test_a_part_within_six_others(self):
        self.assert_error(TooDeep, [within(("amount", 1), 6)])
        self.assert_error(TooDeep, [within(("cell", 0), 6)])

    def test_each_word_around_a_part_six_times(self):
        around = [
            lambda f: ("more", f, 0),
            lambda f: ("least", [f]),
            lambda f: ("greatest", [f]),
            lambda f: ("when", 0, 1, f),
        ]
        for place, word in enumerate(around):
            formula = GOOD
            for _ in range(6):
                formula = word(formula)
            with self.subTest(place=place):
                self.assert_error(TooDeep, [formula])

    def test_a_deep_part_behind_others(self):
        self.assert_error(TooDeep, [GOOD, ("least", [GOOD, within(GOOD, 5)])])

    def test_the_depth_is_due_before_all_else_of_a_part(self):
        for part, expected in WRONG:
            with self.subTest(part=part):
                self.assert_error(TooDeep, [within(part, 6)])
                self.assert_error(expected, [within(part, 5)])

    def test_very_deep_formulas(self):
        self.assert_error(TooDeep, [within(GOOD, 60)])


class TestForms(CheckCase):
    def test_strange_words(self):
        for word in ("strange", "", "Amount", "amount ", "cells", "most", "None"):
            with self.subTest(word=word):
                self.assert_error(BadForm, [(word, 1)])

    def test_strange_words_with_any_number_of_elements(self):
        for rest in ((), (1,), (GOOD, 1), (0, 1, GOOD), (1, 2, 3, 4)):
            with self.subTest(rest=rest):
                self.assert_error(BadForm, [("strange", *rest)])

    def test_too_few_elements(self):
        few = [
            ("amount",), ("cell",), ("more",), ("more", GOOD), ("least",), ("greatest",),
            ("when",), ("when", 0), ("when", 0, 1),
        ]
        for formula in few:
            with self.subTest(formula=formula):
                self.assert_error(BadForm, [formula])

    def test_too_many_elements(self):
        many = [
            ("amount", 1, 1), ("cell", 0, 0), ("more", GOOD, 1, 1), ("least", [GOOD], [GOOD]),
            ("greatest", [GOOD], [GOOD]), ("when", 0, 1, GOOD, GOOD),
        ]
        for formula in many:
            with self.subTest(formula=formula):
                self.assert_error(BadForm, [formula])

    def test_the_form_is_due_before_the_values(self):
        wrong = [
            ("amount", -1, 0), ("cell", 99, 0), ("more", GOOD, 1000, 0), ("least", [], 0),
            ("greatest", [GOOD] * 7, 0), ("when", 99, 0, GOOD, 0), ("when", 99, 0),
        ]
        for formula in wrong:
            with self.subTest(formula=formula):
                self.assert_error(BadForm, [formula])


class TestAmountsOfFormulas(CheckCase):
    def test_good_amounts(self):
        for amount in (0, 1, 999, None):
            with self.subTest(amount=amount):
                self.assert_good([("amount", amount)])

    def test_wrong_amounts(self):
        for amount in (1000, 1001, 10 ** 40, -1, -999, -1000):
            with self.subTest(amount=amount):
                self.assert_error(BadAmount, [("amount", amount)])

    def test_values_that_are_no_amounts(self):
        for amount in NOT_WHOLE:
            if amount is not None:
                with self.subTest(amount=amount):
                    self.assert_error(BadAmount, [("amount", amount)])


class TestCells(CheckCase):
    def test_the_first_and_the_last_cell(self):
        for count in (1, 2, 24):
            for cell in (0, count - 1):
                with self.subTest(count=count, cell=cell):
                    self.assert_good([("cell", cell)] * count)
                    self.assert_good([("when", cell, 1, GOOD)] * count)

    def test_cells_that_are_not_there(self):
        for count in (1, 2, 24):
            for cell in (count, count + 1, 10 ** 40, -1, -count):
                with self.subTest(count=count, cell=cell):
                    self.assert_error(BadCell, [("cell", cell)] * count)
                    self.assert_error(BadCell, [("when", cell, 1, GOOD)] * count)

    def test_values_that_are_no_cells(self):
        for cell in NOT_WHOLE:
            with self.subTest(cell=cell):
                self.assert_error(BadCell, [("cell", cell), GOOD])
                self.assert_error(BadCell, [("when", cell, 1, GOOD), GOOD])


class TestShifts(CheckCase):
    def test_good_shifts(self):
        for shift in (0, 1, -1, 999, -999):
            with self.subTest(shift=shift):
                self.assert_good([("more", GOOD, shift)])

    def test_wrong_shifts(self):
        for shift in (1000, -1000, 1001, -1001, 10 ** 40, -10 ** 40):
            with self.subTest(shift=shift):
                self.assert_error(BadShift, [("more", GOOD, shift)])

    def test_values_that_are_no_shifts(self):
        for shift in NOT_WHOLE:
            with self.subTest(shift=shift):
                self.assert_error(BadShift, [("more", GOOD, shift)])


class TestSizesOfFormulas(CheckCase):
    def test_good_sizes(self):
        for word in ("least", "greatest"):
            for size in range(1, 7):
                with self.subTest(word=word, size=size):
                    self.assert_good([(word, [GOOD] * size)])

    def test_wrong_sizes(self):
        for word in ("least", "greatest"):
            for size in (0, 7, 8, 30):
                with self.subTest(word=word, size=size):
                    self.assert_error(BadSize, [(word, [GOOD] * size)])


class TestThresholds(CheckCase):
    def test_good_thresholds(self):
        for amount in (1, 2, 999):
            with self.subTest(amount=amount):
                self.assert_good([("when", 0, amount, GOOD)])

    def test_wrong_thresholds(self):
        for amount in (0, 1000, 10 ** 40, -1, -999):
            with self.subTest(amount=amount):
                self.assert_error(BadAmount, [("when", 0, amount, GOOD)])

    def test_values_that_are_no_thresholds(self):
        for amount in NOT_WHOLE:
            with self.subTest(amount=amount):
                self.assert_error(BadAmount, [("when", 0, amount, GOOD)])


class TestOrder(CheckCase):
    def test_the_first_wrong_cell_decides(self):
        for first, expected in WRONG:
            for second, _ in WRONG:
                with self.subTest(first=first, second=second):
                    self.assert_error(expected, [GOOD, first, GOOD, second])

    def test_all_of_a_cell_is_due_before_the_next_one(self):
        for first, expected in WRONG:
            for second, _ in WRONG:
                with self.subTest(first=first, second=second):
                    self.assert_error(expected, [within(first, 5), second])
                    self.assert_error(TooDeep, [within(first, 6), second])

    def test_a_deep_part_of_a_later_cell_comes_later(self):
        for first, expected in WRONG:
            with self.subTest(first=first):
                self.assert_error(expected, [first, within(GOOD, 6)])

    def test_the_first_wrong_part_decides(self):
        for word in ("least", "greatest"):
            for first, expected in WRONG:
                for second, _ in WRONG:
                    with self.subTest(word=word, first=first, second=second):
                        self.assert_error(expected, [(word, [GOOD, first, second])])

    def test_all_that_is_in_the_first_part_is_due_before_the_second(self):
        for word in ("least", "greatest"):
            for first, expected in WRONG:
                for second, _ in WRONG:
                    with self.subTest(word=word, first=first, second=second):
                        self.assert_error(expected, [(word, [within(first, 3), second])])
                        self.assert_error(TooDeep, [(word, [within(first, 5), second])])
                        self.assert_error(expected, [(word, [first, within(second, 5)])])

    def test_a_part_is_due_before_what_is_in_it(self):
        for inner, _ in WRONG:
            with self.subTest(inner=inner):
                self.assert_error(BadShift, [("more", inner, 1000)])
                self.assert_error(BadSize, [("least", [inner] * 7)])
                self.assert_error(BadSize, [("greatest", [inner] * 7)])
                self.assert_error(BadCell, [("when", 1, 1, inner)])
                self.assert_error(BadAmount, [("when", 0, 1000, inner)])
                self.assert_error(BadForm, [("more", inner, 1, 1)])
                self.assert_error(BadForm, [("strange", [inner])])

    def test_a_part_is_due_before_depth_in_it(self):
        deep = within(GOOD, 5)
        self.assert_error(BadShift, [("more", deep, -1000)])
        self.assert_error(BadSize, [("least", [deep] * 7)])
        self.assert_error(BadCell, [("when", 1, 1, deep)])
        self.assert_error(BadAmount, [("when", 0, 0, deep)])

    def test_the_cell_of_when_is_due_before_its_amount(self):
        for cell in (1, -1, True, None):
            for amount in (0, 1000, True, None):
                with self.subTest(cell=cell, amount=amount):
                    self.assert_error(BadCell, [("when", cell, amount, GOOD)])

    def test_the_error_does_not_depend_on_how_often_it_is_asked(self):
        sheet = [("when", 0, 0, ("cell", 9))]
        self.assert_error(BadAmount, sheet)
        self.assert_error(BadAmount, sheet)


if __name__ == "__main__":
    unittest.main()
