"""Points 48 and 49: claims about sheets, their papers, and the check of them."""

import copy
import random
import unittest

from circlesettle.checker import check, is_true, paper_of
from circlesettle.flat import flat_form
from circlesettle.greatest import greatest_paper, is_greatest_paper
from circlesettle.least import is_least_paper, least_paper
from reference import greatest_of_sheet, least_of_sheet, some_sheet

N = None

# The least and the greatest solution are the same: [5, 6, None].
SAME = [("least", [("more", ("cell", 0), 1), ("amount", 5)]), ("more", ("when", 2, 900, ("cell", 0)), 1),
        ("greatest", [("amount", N), ("cell", 1)])]
# They differ: [0, 0, 3, 0] and [7, None, 3, None].
DIFFER = [("least", [("cell", 0), ("amount", 7)]), ("more", ("cell", 1), -2), ("amount", 3),
          ("when", 0, 5, ("greatest", [("cell", 1), ("cell", 2)]))]

TRUE = [
    (SAME, ("least", [5, 6, N])), (SAME, ("greatest", [5, 6, N])), (SAME, ("only", [5, 6, N])),
    (DIFFER, ("least", [0, 0, 3, 0])), (DIFFER, ("greatest", [7, N, 3, N])),
    (SAME, ("at_least", 0, 5)), (SAME, ("at_least", 0, 4)), (SAME, ("at_least", 1, 6)), (SAME, ("at_least", 2, N)),
    (SAME, ("at_least", 2, 10 ** 30)), (SAME, ("at_most", 0, 5)), (SAME, ("at_most", 0, 6)), (SAME, ("at_most", 1, 6)),
    (SAME, ("at_most", 2, N)), (SAME, ("at_most", 0, 10 ** 30)),
    (DIFFER, ("at_least", 2, 3)), (DIFFER, ("at_most", 2, 3)), (DIFFER, ("at_most", 0, 7)), (DIFFER, ("at_most", 0, N)),
] + [(sheet, ("at_least", cell, 0)) for sheet in (SAME, DIFFER) for cell in range(len(sheet))] + [
    (sheet, ("at_most", cell, N)) for sheet in (SAME, DIFFER) for cell in range(len(sheet))]

FALSE = [
    (SAME, ("least", [5, 5, N])), (SAME, ("least", [0, 0, 0])), (SAME, ("least", [5, 6, 10 ** 30])), (SAME, ("least", [N, N, N])),
    (SAME, ("greatest", [5, 7, N])), (SAME, ("greatest", [N, N, N])), (SAME, ("only", [4, 6, N])), (SAME, ("only", [5, 6, 0])),
    (SAME, ("at_least", 0, 6)), (SAME, ("at_least", 0, N)), (SAME, ("at_least", 1, 1000)),
    (SAME, ("at_most", 0, 4)), (SAME, ("at_most", 0, 0)), (SAME, ("at_most", 2, 10 ** 30)), (SAME, ("at_most", 2, 0)),
    (DIFFER, ("least", [7, N, 3, N])), (DIFFER, ("greatest", [0, 0, 3, 0])), (DIFFER, ("only", [0, 0, 3, 0])),
    (DIFFER, ("only", [7, N, 3, N])), (DIFFER, ("only", [7, 0, 3, 0])), (DIFFER, ("at_least", 0, 1)),
    (DIFFER, ("at_least", 0, 7)), (DIFFER, ("at_least", 3, N)), (DIFFER, ("at_most", 1, 0)), (DIFFER, ("at_most", 3, 999)),
    (DIFFER, ("at_most", 0, 6)), (DIFFER, ("at_most", 0, 0)),
]


def papers_of(sheet):
    flat = flat_form(sheet)
    return {"low": least_paper(flat), "high": greatest_paper(flat), "both": (least_paper(flat), greatest_paper(flat))}


def kind_of(claim):
    return {"least": "low", "at_least": "low", "greatest": "high", "at_most": "high", "only": "both"}[claim[0]]


class TestClaims(unittest.TestCase):
    def test_the_example_of_the_document(self):
        sheet = [("least", [("more", ("cell", 0), 1), ("amount", 5)])]
        self.assertIs(check(sheet, ("least", [5]), paper_of(sheet, ("least", [5]))), True)
        self.assertIsNone(paper_of(sheet, ("at_least", 0, 6)))

    def test_true_claims(self):
        for sheet, claim in TRUE:
            with self.subTest(claim=claim):
                self.assertIs(is_true(sheet, claim), True)
                paper = paper_of(sheet, claim)
                self.assertIs(check(sheet, claim, paper), True)
                flat = flat_form(sheet)
                if kind_of(claim) == "both":
                    self.assertIsInstance(paper, tuple)
                    self.assertEqual(len(paper), 2)
                    self.assertTrue(is_least_paper(flat, paper[0]))
                    self.assertTrue(is_greatest_paper(flat, paper[1]))
                else:
                    self.assertIsInstance(paper, list)
                    right = is_least_paper if kind_of(claim) == "low" else is_greatest_paper
                    self.assertTrue(right(flat, paper))

    def test_false_claims_have_no_paper(self):
        for sheet, claim in FALSE:
            with self.subTest(claim=claim):
                self.assertIs(is_true(sheet, claim), False)
                self.assertIsNone(paper_of(sheet, claim))
                for paper in papers_of(sheet).values():
                    self.assertIs(check(sheet, claim, paper), False)

    def test_solutions_that_are_neither_the_least_nor_the_greatest(self):
        sheet = [("least", [("cell", 0), ("amount", 7)])]
        for claim in [("least", [3]), ("greatest", [3]), ("only", [3])]:
            self.assertIs(is_true(sheet, claim), False)
            self.assertIsNone(paper_of(sheet, claim))

    def test_some_sheets(self):
        rng = random.Random(48)
        for _ in range(120):
            sheet = some_sheet(rng, rng.randint(1, 4), 3, most=2)
            low, high = least_of_sheet(sheet), greatest_of_sheet(sheet)
            cell = rng.randrange(len(sheet))
            amount = rng.choice([N, 0, 1, 2, 5, 2000, low[cell], high[cell]])
            truths = {
                ("at_least", cell, amount): low[cell] is N or (amount is not N and amount <= low[cell]),
                ("at_most", cell, amount): amount is N or (high[cell] is not N and high[cell] <= amount),
            }
            claims = list(truths.items()) + [
                (("least", low), True), (("greatest", high), True), (("only", low), low == high),
                (("least", high), low == high), (("greatest", low), low == high), (("only", high), low == high)]
            for claim, truth in claims:
                with self.subTest(sheet=sheet, claim=claim):
                    self.assertIs(is_true(sheet, claim), truth)
                    paper = paper_of(sheet, claim)
                    self.assertEqual(paper is not None, truth)
                    if truth:
                        self.assertIs(check(sheet, claim, paper), True)


class TestCheck(unittest.TestCase):
    def test_right_papers_for_another_claim_of_the_same_sheet(self):
        for sheet, claim in TRUE:
            for kind, paper in papers_of(sheet).items():
                with self.subTest(claim=claim, kind=kind):
                    self.assertIs(check(sheet, claim, paper), kind == kind_of(claim))

    def test_right_papers_of_the_other_order(self):
        low, high = papers_of(SAME)["both"]
        claim = ("only", [5, 6, N])
        for paper in ((low, low), (high, high), (high, low)):
            self.assertIs(check(SAME, claim, paper), False)
        self.assertIs(check(SAME, claim, (low, high)), True)

    def test_right_papers_for_another_sheet(self):
        others = [SAME, DIFFER, SAME[:1], [("amount", 5)], SAME + [("amount", 4)], SAME[:2] + [("amount", N)],
                  [("least", [("more", ("cell", 0), 1), ("amount", 6)])] + SAME[1:]]
        for sheet, claim in TRUE:
            for other in others:
                if other != sheet:
                    with self.subTest(claim=claim, other=other):
                        self.assertIs(check(sheet, claim, papers_of(other)[kind_of(claim)]), False)

    def test_empty_papers(self):
        for claim in [("least", [5, 6, N]), ("greatest", [5, 6, N]), ("at_least", 0, 0), ("at_most", 0, N)]:
            self.assertIs(check(SAME, claim, []), False)
        low, high = papers_of(SAME)["both"]
        for paper in (([], []), ([], high), (low, [])):
            self.assertIs(check(SAME, ("only", [5, 6, N]), paper), False)

    def test_the_last_x_does_not_begin_with_the_amounts_of_the_claim(self):
        for sheet, claims in [
            (SAME, [("least", [5, 6, 0]), ("greatest", [5, 6, 0]), ("least", [4, 6, N]), ("greatest", [5, N, N]),
                    ("only", [5, 0, N]), ("least", [5, 6, 10 ** 40])]),
            (DIFFER, [("least", [0, 0, 3, 1]), ("greatest", [7, N, 3, 9])]),
        ]:
            for claim in claims:
                self.assertIs(check(sheet, claim, papers_of(sheet)[kind_of(claim)]), False)

    def test_an_earlier_x_of_the_paper_does_not_count(self):
        # Two stages from below; the first one has [4, 0].
        sheet = [("amount", 4), ("when", 0, 4, ("cell", 0))]
        self.assertEqual(papers_of(sheet)["low"][0][1], [4, 0])
        self.assertIs(check(sheet, ("least", [4, 0]), papers_of(sheet)["low"]), False)
        self.assertIs(check(sheet, ("least", [4, 4]), papers_of(sheet)["low"]), True)
        self.assertIs(check(sheet, ("at_least", 1, 4), papers_of(sheet)["low"]), True)
        self.assertIs(check(sheet, ("at_least", 1, 5), papers_of(sheet)["low"]), False)
        self.assertIs(check(sheet, ("least", [4, 4]), papers_of(sheet)["low"][:1]), False)
        closing = [("amount", 3), ("when", 0, 4, ("cell", 0))]
        self.assertIs(check(closing, ("at_most", 1, 0), papers_of(closing)["high"]), True)
        self.assertIs(check(closing, ("at_most", 1, 3), papers_of(closing)["high"]), True)
        self.assertIs(check(closing, ("greatest", [3, 3]), papers_of(closing)["high"]), False)
        self.assertIs(check(closing, ("greatest", [3, 0]), papers_of(closing)["high"][:1]), False)

    def test_the_amounts_of_further_cells_do_not_count_for_the_claim(self):
        sheet = [("least", [("greatest", [("cell", 0), ("amount", 8)]), ("amount", 9)])]
        self.assertEqual(len(papers_of(sheet)["low"][-1][1]), 4)
        self.assertIs(check(sheet, ("least", [8]), papers_of(sheet)["low"]), True)
        self.assertIs(check(sheet, ("greatest", [9]), papers_of(sheet)["high"]), True)

    def test_papers_with_one_thing_spoilt(self):
        for sheet, claim in [(SAME, ("least", [5, 6, N])), (SAME, ("at_least", 1, 6)), (DIFFER, ("at_least", 2, 3)),
                             (SAME, ("greatest", [5, 6, N])), (DIFFER, ("at_most", 0, 7)), (DIFFER, ("at_most", 2, 3))]:
            flat = flat_form(sheet)
            paper = paper_of(sheet, claim)
            right = is_least_paper if kind_of(claim) == "low" else is_greatest_paper
            wrong = 0
            for stage in range(len(paper)):
                for number in range(len(paper[stage])):
                    for at in range(len(paper[stage][number])):
                        for value in (N, 0, 1, 77):
                            spoilt = copy.deepcopy(paper)
                            spoilt[stage][number][at] = value
                            truth = right(flat, spoilt) and spoilt[-1][1][:len(sheet)] == paper[-1][1][:len(sheet)]
                            wrong += not truth
                            self.assertIs(check(sheet, claim, spoilt), truth)
            self.assertGreater(wrong, 10)
            self.assertIs(check(sheet, claim, paper + paper[-1:]), False)
            for stage in range(len(paper)):
                for number in range(len(paper[stage])):
                    spoilt = copy.deepcopy(paper)
                    spoilt[stage][number].append(0)
                    self.assertIs(check(sheet, claim, spoilt), False)

    def test_only_with_one_of_its_two_papers_wrong(self):
        low, high = papers_of(SAME)["both"]
        claim = ("only", [5, 6, N])
        bad_low, bad_high = copy.deepcopy(low), copy.deepcopy(high)
        bad_low[-1][1][0] = 4
        bad_high[-1][1][0] = 6
        self.assertIs(check(SAME, claim, (low, high)), True)
        self.assertIs(check(SAME, claim, (bad_low, high)), False)
        self.assertIs(check(SAME, claim, (low, bad_high)), False)
        self.assertIs(check(SAME, claim, (low[:-1], high)), False)
        self.assertIs(check(SAME, claim, (low, high[1:])), False)

    def test_only_where_the_two_solutions_differ(self):
        both = papers_of(DIFFER)["both"]
        for x in ([0, 0, 3, 0], [7, N, 3, N]):
            self.assertIs(check(DIFFER, ("only", x), both), False)

    def test_papers_of_other_forms(self):
        low, high = papers_of(SAME)["both"]
        for claim in [("least", [5, 6, N]), ("greatest", [5, 6, N]), ("at_least", 0, 1), ("at_most", 0, 9)]:
            self.assertIs(check(SAME, claim, (low, high)), False)
        for paper in (low, high, (low,), (low, high, high), (), [low, high], [low]):
            self.assertIs(check(SAME, ("only", [5, 6, N]), paper), False)
        self.assertIs(check(SAME, ("least", [5, 6, N]), low[:-1] + high[-1:]), False)
        self.assertIs(check(SAME, ("greatest", [5, 6, N]), high + low), False)


if __name__ == "__main__":
    unittest.main()
