"""Points 10, 11 and 13: the written form of formulas and sheets, and reading it back."""

import copy
import random
import unittest

from circlesettle.reading import read_sheet
from circlesettle.sheets import check_sheet
from circlesettle.writing import write_formula, write_sheet
from reference import some_sheet

DEEPEST = ("more", ("least", [("when", 0, 9, ("greatest", [("more", ("amount", 3), -999)])), ("cell", 0)]), 1)


class TestWriteFormula(unittest.TestCase):
    def test_each_kind(self):
        for formula, words in [
            (("amount", 0), "amount 0"),
            (("amount", 999), "amount 999"),
            (("amount", None), "amount endless"),
            (("cell", 0), "cell 0"),
            (("cell", 23), "cell 23"),
            (("more", ("cell", 2), 7), "more 7 cell 2"),
            (("more", ("cell", 2), -7), "more -7 cell 2"),
            (("more", ("amount", None), 0), "more 0 amount endless"),
            (("least", [("cell", 4)]), "least 1 cell 4"),
            (("greatest", [("cell", 4), ("amount", None)]), "greatest 2 cell 4 amount endless"),
            (("when", 3, 12, ("cell", 4)), "when 3 12 cell 4"),
            (("when", 0, 1, ("amount", None)), "when 0 1 amount endless"),
        ]:
            with self.subTest(formula=formula):
                self.assertEqual(write_formula(formula), words)
                self.assertEqual(read_sheet(words + "\n" + "amount 0\n" * 23)[0], formula)

    def test_six_formulas(self):
        formulas = [("amount", k) for k in range(6)]
        words = "6 amount 0 amount 1 amount 2 amount 3 amount 4 amount 5"
        self.assertEqual(write_formula(("least", formulas)), "least " + words)
        self.assertEqual(write_formula(("greatest", formulas)), "greatest " + words)

    def test_parts_within_parts(self):
        self.assertEqual(write_formula(("more", ("more", ("cell", 0), 2), 1)), "more 1 more 2 cell 0")
        self.assertEqual(write_formula(("least", [("greatest", [("cell", 0), ("cell", 1)]), ("amount", 5)])),
                         "least 2 greatest 2 cell 0 cell 1 amount 5")
        self.assertEqual(write_formula(("least", [("amount", 5), ("greatest", [("cell", 0), ("cell", 1)])])),
                         "least 2 amount 5 greatest 2 cell 0 cell 1")

    def test_the_deepest_part(self):
        self.assertEqual(write_formula(DEEPEST), "more 1 least 2 when 0 9 greatest 1 more -999 amount 3 cell 0")


class TestWriteSheet(unittest.TestCase):
    def test_one_cell(self):
        self.assertEqual(write_sheet([("cell", 0)]), "cell 0\n")

    def test_the_example_of_the_document(self):
        sheet = [("least", [("more", ("cell", 0), 1), ("amount", 5)]), ("when", 0, 3, ("amount", None))]
        self.assertEqual(write_sheet(sheet), "least 2 more 1 cell 0 amount 5\nwhen 0 3 amount endless\n")

    def test_24_cells(self):
        sheet = [("more", ("cell", cell), cell - 12) for cell in range(24)]
        text = write_sheet(sheet)
        self.assertEqual(text, "".join(f"more {cell - 12} cell {cell}\n" for cell in range(24)))
        self.assertEqual(read_sheet(text), sheet)

    def test_the_sheet_stays(self):
        sheet = [DEEPEST, ("least", [("cell", 0)])]
        kept = copy.deepcopy(sheet)
        write_sheet(sheet)
        write_formula(sheet[0])
        self.assertEqual(sheet, kept)


class TestBothWaysRound(unittest.TestCase):
    def check(self, sheet):
        check_sheet(sheet)
        text = write_sheet(sheet)
        self.assertEqual(read_sheet(text), sheet)
        self.assertEqual(write_sheet(read_sheet(text)), text)

    def test_some_sheets(self):
        rng = random.Random(11)
        for _ in range(300):
            self.check(some_sheet(rng, rng.randint(1, 24), rng.randint(0, 5), most=999))

    def test_the_deepest_parts(self):
        self.check([DEEPEST])
        self.check([DEEPEST] * 24)
        for word in ("more", "least", "greatest", "when"):
            formula = ("amount", None)
            for _ in range(5):
                formula = {"more": ("more", formula, -1), "when": ("when", 0, 999, formula)}.get(word, (word, [formula]))
            self.check([formula])

    def test_wide_formulas(self):
        formula = ("least", [("greatest", [("cell", 0)] * 6)] * 6)
        self.check([formula])

    def test_every_amount_and_every_shift(self):
        for first in range(0, 1000, 24):
            self.check([("amount", amount) for amount in range(first, min(first + 24, 1000))])
        for first in range(-999, 1000, 24):
            self.check([("more", ("cell", 0), shift) for shift in range(first, min(first + 24, 1000))])

    def test_texts(self):
        for text in ["amount endless\n", "cell 0\n", "more -1 more 0 amount 0\n", "when 0 999 cell 0\n",
                     "least 3 amount 1 least 1 cell 1 amount 2\ngreatest 2 cell 0 cell 1\n"]:
            with self.subTest(text=text):
                self.assertEqual(write_sheet(read_sheet(text)), text)


if __name__ == "__main__":
    unittest.main()
