"""The head of the document: no function modifies its arguments, and what a function returns is new."""

import copy
import unittest

from circlesettle.book import replay
from circlesettle.checker import check, is_true, paper_of
from circlesettle.endless import (
    are_holding, conditions_of, endless_cells, endless_paper, gaining_way, holding_choices, is_gaining, opened,
    shows_endless,
)
from circlesettle.flat import arcs_of, flat_form, flat_values, is_flat_solution
from circlesettle.forms import form_of, form_value, is_form, is_no_more, same_formula, telling, term_value
from circlesettle.goals import answers, is_missed, miss_of, need, need_in_greatest, set_input
from circlesettle.greatest import (
    flat_greatest, greatest_paper, greatest_solution, held_ranks, is_greatest_paper, shows_greatest, stages_from_above,
    tight_ranks,
)
from circlesettle.joining import fixed, in_order, joined, taken_out
from circlesettle.knots import (
    depths_of, hanging, hangs_on, is_circle, knot_sheet, knots_of, solved_by_knots, touched,
)
from circlesettle.least import (
    are_ranks, flat_least, is_least_paper, least_paper, least_ranks, least_solution, stages_from_below,
)
from circlesettle.reading import read_sheet, words_of
from circlesettle.rounds import (
    bound_of, first_round, from_above, from_below, is_high, is_low, one_round, settled_from_above,
    settled_from_below, waves_from_above, waves_from_below,
)
from circlesettle.sheets import cells_in, check_sheet, is_solution, value_of, values_of
from circlesettle.strategies import best_choice, better, is_best, is_choice, put_in, steps_of
from circlesettle.writing import write_formula, write_sheet

N = None
SHEET = [("least", [("more", ("cell", 0), 1), ("greatest", [("amount", 5), ("cell", 2)])]),
         ("when", 0, 3, ("more", ("cell", 1), 2)), ("cell", 2)]
FLAT = [("amount", 3), ("when", 0, 3, 2), ("greatest", [(0, 1), (3, 0)]), ("when", 1, 4, 4),
        ("greatest", [(0, 0), (4, 1)]), ("when", 6, 2, 0), ("when", 5, 2, 0), ("least", [(2, 2), (0, 4)])]
PLAIN = [("greatest", [(1, 2), (2, 0)]), ("least", [(0, -1), (4, 0)]), ("greatest", [(0, -3), (2, 0)]),
         ("least", [(4, 0), (0, 0)]), ("amount", 5), ("greatest", [(4, 0), (6, -9)]), ("amount", None)]
ROUND = [None, 0, None, 1, None, None, None]
LEAST = flat_least(PLAIN)
GREATEST = flat_greatest(PLAIN)

FORMULA = ("least", [("more", ("greatest", [("cell", 1), ("amount", 4)]), 2), ("greatest", [("cell", 0), ("cell", 1)])])
OTHER = ("greatest", [("least", [("cell", 1), ("cell", 0), ("amount", 9)]), ("more", ("cell", 2), -3)])
GOAL = {"cell": 7, "goal": 6}
SECOND = [("amount", 1), ("greatest", [("cell", 0), ("least", [("cell", 2), ("cell", 3)])]), ("more", ("cell", 0), 2),
          ("least", [("cell", 3), ("greatest", [("amount", 4), ("cell", 1)])])]
LOW, HIGH = least_solution(SECOND), greatest_solution(SECOND)
SIDE = {"kind": "greatest"}
OTHER_SIDE = {"kind": "least"}
CHOICE = [1, None, 0, None, None, 1, None]
OTHER_CHOICE = [None, 0, None, 1, None, None, None]
JOURNAL = [("put", "a", ("least", [("amount", 4), ("cell", "a")])), ("put", "b", ("greatest", [("cell", "a"), ("cell", "b")])),
           ("rename", "a", "c"), ("undo",), ("put", "d", ("when", "b", 3, ("least", [("cell", "d"), ("cell", "a")])))]


def journal_of(journal):
    return replay(journal).journal()


def sheet_of(journal):
    return replay(journal).sheet()


def formula_of(journal, name):
    return replay(journal).formula(name)


def changed_by(journal, deeds):
    return replay(journal).do_all(deeds)


def amounts_behind(journal, deeds):
    return replay(journal).what_if(deeds)


# Each function with what is handed in by position, and by name.
CALLS = [
    (flat_form, [SHEET], {}), (flat_values, [FLAT, [1, 2, None, 4, 5, 6, 7, 8]], {}),
    (is_flat_solution, [FLAT, flat_least(FLAT)], {}), (arcs_of, [FLAT, 2], {}), (arcs_of, [FLAT, 3], {}),
    (arcs_of, [FLAT, 0], {}),
    (words_of, ["a b"], {}), (read_sheet, [write_sheet(SHEET)], {}), (write_sheet, [SHEET], {}),
    (write_formula, [SHEET[0]], {}),
    (one_round, [FLAT, [0] * 8], {}), (from_below, [FLAT], {"rounds": 0}), (from_below, [FLAT], {"rounds": 3}),
    (from_above, [FLAT], {"rounds": 0}), (from_above, [FLAT], {"rounds": 3}), (settled_from_below, [FLAT], {"rounds": 9}),
    (settled_from_above, [FLAT], {"rounds": 9}), (waves_from_below, [FLAT], {"rounds": 4}),
    (waves_from_above, [FLAT], {"rounds": 4}), (first_round, [FLAT], {"cell": 7, "amount": 2, "rounds": 9}),
    (is_low, [FLAT, [0] * 8], {}), (is_high, [FLAT, [None] * 8], {}), (bound_of, [FLAT], {}),
    (are_ranks, [PLAIN, LEAST, least_ranks(PLAIN, LEAST)], {}), (least_ranks, [PLAIN, LEAST], {}), (flat_least, [FLAT], {}),
    (flat_least, [PLAIN], {}), (least_solution, [SHEET], {}), (stages_from_below, [FLAT], {}), (least_paper, [FLAT], {}),
    (stages_from_below, [PLAIN], {}), (least_paper, [PLAIN], {}), (is_least_paper, [FLAT, least_paper(FLAT)], {}),
    (conditions_of, [FLAT], {}), (opened, [FLAT, [3, 1]], {}), (endless_cells, [PLAIN], {}), (endless_paper, [PLAIN], {}),
    (shows_endless, [PLAIN, *endless_paper(PLAIN)], {}), (gaining_way, [PLAIN, 3, ROUND], {}),
    (gaining_way, [PLAIN, 6, ROUND], {}), (is_gaining, [PLAIN, ROUND, [3, 0, 1, 0]], {}), (holding_choices, [PLAIN], {}),
    (are_holding, [PLAIN, ROUND, [4, 3]], {}),
    (held_ranks, [PLAIN], {}), (tight_ranks, [PLAIN, GREATEST], {}),
    (shows_greatest, [PLAIN, GREATEST, held_ranks(PLAIN), tight_ranks(PLAIN, GREATEST)], {}),
    (stages_from_above, [FLAT], {}), (stages_from_above, [PLAIN], {}), (flat_greatest, [FLAT], {}),
    (flat_greatest, [PLAIN], {}), (greatest_solution, [SHEET], {}), (greatest_paper, [FLAT], {}),
    (greatest_paper, [PLAIN], {}), (is_greatest_paper, [FLAT, greatest_paper(FLAT)], {}),
    (hangs_on, [FLAT, 7], {}), (hanging, [FLAT, 4], {}), (touched, [FLAT, 4], {}), (knots_of, [FLAT], {}),
    (is_circle, [FLAT, [2, 3]], {}), (depths_of, [FLAT], {}), (knot_sheet, [PLAIN, [0, 1, 2], LEAST], {}),
    (knot_sheet, [PLAIN, [4], LEAST], {}), (solved_by_knots, [FLAT], {"greatest": False}),
    (solved_by_knots, [FLAT], {"greatest": True}),
    (term_value, [(4, [(0, 1), (2, -3)]), [2, 3, N]], {}), (form_value, [form_of(FORMULA), [2, 3, N]], {}),
    (is_no_more, [(4, [(0, 1)]), (5, [(0, 2), (1, 4)])], {}), (form_of, [FORMULA], {}), (form_of, [OTHER], {}),
    (is_form, [form_of(FORMULA)], {}), (is_form, [form_of(FORMULA)[::-1]], {}), (same_formula, [FORMULA, OTHER], {}),
    (telling, [FORMULA, OTHER], {"count": 5}), (telling, [OTHER, FORMULA], {"count": 3}),
    (set_input, [FLAT, 0, 9], {}), (need, [FLAT, 0], GOAL), (need_in_greatest, [FLAT, 0], GOAL),
    (answers, [FLAT, 0], {"cell": 7, "most": 9}), (is_missed, [FLAT, 0], {**GOAL, "amount": 1, "x": [2] * 8}),
    (miss_of, [FLAT, 0], {**GOAL, "amount": 1}), (miss_of, [FLAT, 0], {**GOAL, "amount": 99}),
    (check_sheet, [SHEET], {}), (value_of, [SHEET[0], [1, N, 3]], {}), (values_of, [SHEET, [1, N, 3]], {}),
    (is_solution, [SHEET, [5, 7, 0]], {}), (cells_in, [SHEET[0]], {}),
    (check, [SECOND, ("least", LOW), paper_of(SECOND, ("least", LOW))], {}),
    (check, [SECOND, ("at_most", 1, 5), paper_of(SECOND, ("greatest", HIGH))], {}),
    (check, [[("amount", 3)], ("only", [3]), paper_of([("amount", 3)], ("only", [3]))], {}),
    (paper_of, [SECOND, ("least", LOW)], {}), (paper_of, [SECOND, ("greatest", HIGH)], {}),
    (paper_of, [SECOND, ("at_least", 2, 3)], {}), (paper_of, [[("amount", 3)], ("only", [3])], {}),
    (is_true, [SECOND, ("only", LOW)], {}),
    (is_choice, [PLAIN, CHOICE], SIDE), (put_in, [PLAIN, CHOICE], SIDE), (put_in, [PLAIN, OTHER_CHOICE], OTHER_SIDE),
    (is_best, [PLAIN, CHOICE], SIDE), (is_best, [PLAIN, OTHER_CHOICE], OTHER_SIDE), (best_choice, [PLAIN], SIDE),
    (best_choice, [PLAIN], OTHER_SIDE), (better, [PLAIN, CHOICE, [1, 2, 3, 4, 5, 6, N]], {}),
    (better, [PLAIN, CHOICE, [0] * 7], {}), (steps_of, [PLAIN, CHOICE], {}),
    (steps_of, [PLAIN, [0, None, 0, None, None, 0, None]], {}),
    (joined, [SHEET, SECOND], {"links": [(0, 2)]}), (joined, [SECOND, SHEET], {"links": []}), (taken_out, [SECOND, 1], {}),
    (taken_out, [SECOND, 2], {}), (in_order, [SHEET, [2, 0, 1]], {}), (in_order, [SHEET, [0, 1, 2]], {}),
    (fixed, [SHEET, 2, 4], {}), (fixed, [SECOND, 0, N], {}),
    (journal_of, [JOURNAL], {}), (sheet_of, [JOURNAL], {}), (formula_of, [JOURNAL, "d"], {}),
    (changed_by, [JOURNAL, [("put", "e", ("least", [("cell", "e")])), ("undo",)]], {}), (changed_by, [[], JOURNAL], {}),
    (amounts_behind, [JOURNAL, [("put", "e", ("least", [("cell", "e")]))]], {}),
]


def spoil(value):
    """Change every list in the value."""
    if isinstance(value, (list, tuple)):
        for inner in value:
            spoil(inner)
    if isinstance(value, list):
        value.reverse()
        value.append("spoilt")


def lists_in(value):
    """All lists in the value, each once for each place at which it stands."""
    found = [value] if isinstance(value, list) else []
    if isinstance(value, (list, tuple)):
        for inner in value:
            found.extend(lists_in(inner))
    return found


class TestUntouched(unittest.TestCase):
    def test_every_function_that_takes_or_returns_lists_is_here(self):
        self.assertEqual(len({call[0] for call in CALLS}), 87)

    def test_what_is_handed_in_stays(self):
        for function, arguments, named in CALLS:
            kept = copy.deepcopy((arguments, named))
            function(*arguments, **named)
            with self.subTest(function=function.__name__):
                self.assertEqual((arguments, named), kept)

    def test_changing_what_was_returned_changes_nothing_else(self):
        for function, arguments, named in CALLS:
            kept = copy.deepcopy((arguments, named))
            first = function(*arguments, **named)
            answer = copy.deepcopy(first)
            spoil(first)
            with self.subTest(function=function.__name__):
                self.assertEqual((arguments, named), kept)
                self.assertEqual(function(*arguments, **named), answer)

    def test_no_list_stands_twice_in_an_answer(self):
        for function, arguments, named in CALLS:
            lists = lists_in(function(*arguments, **named))
            with self.subTest(function=function.__name__):
                self.assertEqual(len({id(each) for each in lists}), len(lists))

    def test_equal_calls_have_equal_answers(self):
        for function, arguments, named in CALLS:
            with self.subTest(function=function.__name__):
                self.assertEqual(function(*arguments, **named), function(*copy.deepcopy(arguments), **named))


if __name__ == "__main__":
    unittest.main()
