"""Points 12 and 13: reading sheets, BadText with its line and column, and the check that comes after the form."""

import copy
import random
import re
import unittest

from circlesettle.errors import BadAmount, BadCell, BadSize, BadText, SheetError, TooDeep
from circlesettle.reading import read_sheet
from circlesettle.writing import write_sheet
from reference import some_sheet

NUMBER = re.compile("(0|[1-9][0-9]{0,2})\\Z")
SHIFT = re.compile("(0|-?[1-9][0-9]{0,2})\\Z")

# One line with each form, and for each of its words some that are wrong in its place.
NO_FORM = ["0", "1", "-1", "endless", "Amount", "amounts", "cel", "cell0", "-", "+", "least-", "amount\t"]
NO_NUMBER = ["amount", "cell", "more", "least", "greatest", "when", "-1", "-0", "-999", "1000", "00", "01", "+1", "1-",
             "1_0", "a", "1a", "\u0661", "1\t", "endles", "Endless", "None"]
NO_AMOUNT = NO_NUMBER
NO_CELL = NO_NUMBER + ["endless"]
NO_SHIFT = ["amount", "cell", "least", "-0", "1000", "-1000", "00", "-01", "+1", "1-", "--1", "a", "endless", "1_0"]
NO_COUNT = NO_NUMBER + ["endless", "0", "7", "8", "10", "999"]
LINES = [
    ("amount 12", [NO_FORM, NO_AMOUNT]),
    ("amount endless", [NO_FORM, NO_AMOUNT]),
    ("cell 3", [NO_FORM, NO_CELL]),
    ("more -12 cell 0", [NO_FORM, NO_SHIFT, NO_FORM, NO_CELL]),
    ("least 2 amount 1 cell 0", [NO_FORM, NO_COUNT, NO_FORM, NO_AMOUNT, NO_FORM, NO_CELL]),
    ("greatest 1 amount endless", [NO_FORM, NO_COUNT, NO_FORM, NO_AMOUNT]),
    ("when 0 5 more 3 amount 7", [NO_FORM, NO_CELL, NO_CELL, NO_FORM, NO_SHIFT, NO_FORM, NO_AMOUNT]),
]


def error_of(text):
    try:
        read_sheet(text)
    except BadText as error:
        return error.line, error.column
    return None


def column_at(words, at):
    return len(" ".join(words[:at])) + (1 if at == 0 else 2)


class Wrong(Exception):
    """The word at this place is wrong, or one is missing there."""


def read_words(words, at):
    """Read one formula from this place on, and return the place behind it; by the words of point 11."""
    def expect(at, right):
        if at >= len(words) or not right(words[at]):
            raise Wrong(at)
        return words[at]
    word = expect(at, lambda text: text in ("amount", "cell", "more", "least", "greatest", "when"))
    at += 1
    if word == "amount":
        expect(at, lambda text: text == "endless" or NUMBER.match(text))
    elif word == "more":
        expect(at, SHIFT.match)
        return read_words(words, at + 1)
    elif word in ("least", "greatest"):
        many = int(expect(at, lambda text: text in ("1", "2", "3", "4", "5", "6")))
        at += 1
        for _ in range(many):
            at = read_words(words, at)
        return at
    else:
        expect(at, NUMBER.match)
        if word == "when":
            expect(at + 1, NUMBER.match)
            return read_words(words, at + 2)
    return at + 1


def expected_error(text):
    """The line and column of point 12, or None if the form is right."""
    lines = text.split("\n")
    whole = lines[-1] == ""
    if whole:
        lines.pop()
    for number, line in enumerate(lines, start=1):
        words = line.split(" ")
        try:
            end = read_words(words, 0)
        except Wrong as wrong:
            end = wrong.args[0]
        else:
            if end == len(words):
                continue
        return number, len(line) + 1 if end >= len(words) else column_at(words, end)
    return None if whole else (len(lines), len(lines[-1]) + 1)


class TestReadSheet(unittest.TestCase):
    def test_the_examples_of_the_document(self):
        self.assertEqual(read_sheet("least 2 more 1 cell 0 amount 5\nwhen 0 3 amount endless\n"),
                         [("least", [("more", ("cell", 0), 1), ("amount", 5)]), ("when", 0, 3, ("amount", None))])
        with self.assertRaises(BadText):
            read_sheet("least 2 cell 0\n")

    def test_each_kind(self):
        self.assertEqual(read_sheet("amount 0\n"), [("amount", 0)])
        self.assertEqual(read_sheet("amount endless\n"), [("amount", None)])
        self.assertEqual(read_sheet("cell 0\n"), [("cell", 0)])
        self.assertEqual(read_sheet("more -999 cell 0\n"), [("more", ("cell", 0), -999)])
        self.assertEqual(read_sheet("least 1 cell 0\n"), [("least", [("cell", 0)])])
        self.assertEqual(read_sheet("greatest 2 cell 0 amount 1\n"), [("greatest", [("cell", 0), ("amount", 1)])])
        self.assertEqual(read_sheet("when 0 1 cell 0\n"), [("when", 0, 1, ("cell", 0))])

    def test_parts_in_their_order(self):
        self.assertEqual(
            read_sheet("least 3 when 0 2 more 4 cell 0 greatest 2 amount 6 cell 0 amount 7\n"),
            [("least", [("when", 0, 2, ("more", ("cell", 0), 4)), ("greatest", [("amount", 6), ("cell", 0)]),
                        ("amount", 7)])])

    def test_answers_are_new(self):
        text = "least 2 cell 0 amount 1\n"
        first = read_sheet(text)
        kept = copy.deepcopy(first)
        first[0][1].clear()
        first.clear()
        self.assertEqual(read_sheet(text), kept)


class TestWrongWords(unittest.TestCase):
    def test_the_right_lines_are_right(self):
        for line, _ in LINES:
            self.assertIsNone(error_of("amount 0\n" * 3 + line + "\n"))

    def test_each_wrong_word_at_each_place(self):
        for line, wrong in LINES:
            words = line.split(" ")
            self.assertEqual(len(words), len(wrong))
            for at, others in enumerate(wrong):
                for other in others:
                    changed = words[:at] + [other] + words[at + 1:]
                    with self.subTest(line=" ".join(changed)):
                        column = column_at(words, at)
                        self.assertEqual(error_of(" ".join(changed) + "\n"), (1, column))
                        self.assertEqual(error_of("cell 0\n" + " ".join(changed) + "\nx\n"), (2, column))
                        self.assertEqual(error_of(" ".join(changed[:at + 1]) + "\n"), (1, column))
                        self.assertEqual(error_of(" ".join(changed)), (1, column))

    def test_words_that_are_right_elsewhere(self):
        for text, column in [("5\n", 1), ("amount amount 5\n", 8), ("cell endless\n", 6), ("cell -1\n", 6),
                             ("more endless cell 0\n", 6), ("more cell 0\n", 6), ("least 0 cell 0\n", 7),
                             ("least 7 cell 0\n", 7), ("least cell 0\n", 7), ("least endless cell 0\n", 7),
                             ("when 0 endless cell 0\n", 8), ("when 0 -1 cell 0\n", 8), ("when 0 cell 0\n", 8),
                             ("when -1 1 cell 0\n", 6), ("amount -5\n", 8), ("more 1000 cell 0\n", 6),
                             ("more 5 5\n", 8), ("least 1 1\n", 9), ("when 1 1 1\n", 10), ("amount 1000\n", 8)]:
            with self.subTest(text=text):
                self.assertEqual(error_of(text), (1, column))

    def test_a_word_too_many(self):
        for line, _ in LINES:
            for other in ("0", "amount", "x", "endless"):
                with self.subTest(line=line, other=other):
                    self.assertEqual(error_of(line + " " + other + "\n"), (1, len(line) + 2))
        self.assertEqual(error_of("cell 0 cell 0\n"), (1, 8))
        self.assertEqual(error_of("least 1 cell 0 cell 0\n"), (1, 16))

    def test_a_line_that_ends_too_early(self):
        for line, _ in LINES:
            words = line.split(" ")
            for many in range(1, len(words)):
                short = " ".join(words[:many])
                with self.subTest(line=short):
                    self.assertEqual(error_of(short + "\n"), (1, len(short) + 1))
                    self.assertEqual(error_of("cell 0\n" + short + "\nx\n"), (2, len(short) + 1))
                    self.assertEqual(error_of(short), (1, len(short) + 1))

    def test_the_first_of_two_wrong_words(self):
        self.assertEqual(error_of("least 7 cel 0\n"), (1, 7))
        self.assertEqual(error_of("when x y cell 0\n"), (1, 6))
        self.assertEqual(error_of("more 1 cell x y\n"), (1, 13))

    def test_the_first_of_two_wrong_lines(self):
        self.assertEqual(error_of("cell 0\ncell 0 0\nx\n"), (2, 8))
        self.assertEqual(error_of("cell 0\ncell\nx\n"), (2, 5))
        self.assertEqual(error_of("cell\ncell\ncell"), (1, 5))


class TestEmptyWords(unittest.TestCase):
    def test_at_the_beginning(self):
        self.assertEqual(error_of(" cell 0\n"), (1, 1))
        self.assertEqual(error_of("cell 0\n  cell 0\n"), (2, 1))

    def test_in_the_middle(self):
        self.assertEqual(error_of("cell  0\n"), (1, 6))
        self.assertEqual(error_of("least 2 cell 0  cell 0\n"), (1, 16))
        self.assertEqual(error_of("least  2 x\n"), (1, 7))

    def test_at_the_end(self):
        self.assertEqual(error_of("cell 0 \n"), (1, 8))
        self.assertEqual(error_of("cell 0  \n"), (1, 8))
        self.assertEqual(error_of("cell \n"), (1, 6))
        self.assertEqual(error_of("cell 0 "), (1, 8))
        self.assertEqual(error_of("least 1 \n"), (1, 9))

    def test_an_empty_line(self):
        self.assertEqual(error_of("\n"), (1, 1))
        self.assertEqual(error_of("cell 0\n\n"), (2, 1))
        self.assertEqual(error_of("\ncell 0\n"), (1, 1))
        self.assertEqual(error_of("cell 0\n\ncell 0\n"), (2, 1))

    def test_spaces_alone(self):
        self.assertEqual(error_of(" \n"), (1, 1))
        self.assertEqual(error_of(" "), (1, 1))


class TestTheLastLine(unittest.TestCase):
    def test_right_but_without_a_newline(self):
        for line, _ in LINES:
            with self.subTest(line=line):
                self.assertEqual(error_of(line), (1, len(line) + 1))
                self.assertEqual(error_of("cell 0\n" + line), (2, len(line) + 1))

    def test_an_earlier_error_comes_first(self):
        self.assertEqual(error_of("cell x\ncell 0"), (1, 6))
        self.assertEqual(error_of("cell\ncell 0"), (1, 5))

    def test_wrong_or_too_short_without_a_newline(self):
        self.assertEqual(error_of("cell 0\ncell x"), (2, 6))
        self.assertEqual(error_of("cell 0\ncell"), (2, 5))
        self.assertEqual(error_of("cell 0\ncell 0 0"), (2, 8))
        self.assertEqual(error_of("x"), (1, 1))

    def test_other_ends_of_lines(self):
        self.assertEqual(error_of("cell 0\r\n"), (1, 6))
        self.assertEqual(error_of("cell 0\rcell 0\n"), (1, 6))


class TestChangedTexts(unittest.TestCase):
    def test_texts_with_some_words_changed(self):
        rng = random.Random(12)
        others = ["", "", "0", "1", "2", "7", "-1", "999", "1000", "-0", "endless", "amount", "cell", "more", "least",
                  "greatest", "when", "x", "\n", "cell 0"]
        seen = set()
        for _ in range(4000):
            text = write_sheet(some_sheet(rng, rng.randint(1, 3), rng.randint(0, 2)))
            tokens = re.split("( |\n)", text)
            for _ in range(rng.randint(1, 2)):
                at = rng.randrange(len(tokens))
                tokens[at:at + rng.randint(0, 1)] = [rng.choice(others)]
            text = "".join(tokens)
            expected = expected_error(text)
            seen.add(expected is None)
            with self.subTest(text=text):
                try:
                    self.assertEqual(write_sheet(read_sheet(text)), text)
                    self.assertIsNone(expected)
                except BadText as error:
                    self.assertEqual((error.line, error.column), expected)
                except SheetError:
                    self.assertIsNone(expected)
        self.assertEqual(seen, {True, False})


class TestTheCheck(unittest.TestCase):
    def test_a_text_without_lines(self):
        with self.assertRaises(BadSize):
            read_sheet("")

    def test_too_many_lines(self):
        self.assertEqual(len(read_sheet("cell 0\n" * 24)), 24)
        with self.assertRaises(BadSize):
            read_sheet("cell 0\n" * 25)

    def test_a_part_within_too_many_others(self):
        self.assertEqual(len(read_sheet("more 1 " * 5 + "cell 0\n")), 1)
        with self.assertRaises(TooDeep):
            read_sheet("more 1 " * 6 + "cell 0\n")

    def test_a_line_of_very_many_parts(self):
        with self.assertRaises(TooDeep):
            read_sheet("least 1 " * 20000 + "cell 0\n")
        self.assertEqual(error_of("least 1 " * 20000 + "cell\n"), (1, 160005))

    def test_cells_that_are_not_there(self):
        for text in ("cell 1\n", "amount 0\ncell 2\n", "cell 999\n", "when 1 1 cell 0\n", "least 2 cell 0 cell 1\n"):
            with self.subTest(text=text), self.assertRaises(BadCell):
                read_sheet(text)

    def test_the_number_0_of_when(self):
        with self.assertRaises(BadAmount):
            read_sheet("when 0 0 cell 0\n")

    def test_the_first_error_of_the_data_is_raised(self):
        with self.assertRaises(BadCell):
            read_sheet("cell 5\nwhen 0 0 cell 0\n")
        with self.assertRaises(BadAmount):
            read_sheet("when 0 0 cell 0\ncell 5\n")

    def test_the_form_of_the_whole_text_comes_first(self):
        for bad in ("cell 9\n", "when 0 0 cell 0\n", "more 1 " * 6 + "cell 0\n", "cell 0\n" * 25):
            many = bad.count("\n")
            with self.subTest(bad=bad):
                self.assertEqual(error_of(bad + "x\n"), (many + 1, 1))
                self.assertEqual(error_of(bad + "cell 0"), (many + 1, 7))
                self.assertEqual(error_of(bad + "\n"), (many + 1, 1))
                self.assertEqual(error_of(bad[:-1]), (many, len(bad.split("\n")[-2]) + 1))


if __name__ == "__main__":
    unittest.main()
