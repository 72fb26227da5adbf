"""Points 9, 10 and 12: lines, words with their columns, and whole numbers."""

import types
import unittest

from circlesettle.reading import lines_of, read_whole, words_of


class TestLinesOf(unittest.TestCase):
    def test_it_is_a_generator(self):
        lines = lines_of("a\nb\n")
        self.assertIsInstance(lines, types.GeneratorType)
        self.assertEqual(next(lines), "a")
        self.assertEqual(list(lines), ["b"])

    def test_the_empty_text_has_no_lines(self):
        self.assertEqual(list(lines_of("")), [])

    def test_a_text_that_ends_with_a_newline(self):
        self.assertEqual(list(lines_of("a b\n")), ["a b"])
        self.assertEqual(list(lines_of("a b\n c\n")), ["a b", " c"])

    def test_a_text_that_does_not(self):
        self.assertEqual(list(lines_of("a b")), ["a b"])
        self.assertEqual(list(lines_of("a\nb")), ["a", "b"])
        self.assertEqual(list(lines_of("a\n ")), ["a", " "])

    def test_empty_lines(self):
        self.assertEqual(list(lines_of("\n")), [""])
        self.assertEqual(list(lines_of("\n\n")), ["", ""])
        self.assertEqual(list(lines_of("\n\na\n\nb")), ["", "", "a", "", "b"])
        self.assertEqual(list(lines_of("a\n\n")), ["a", ""])

    def test_only_newlines_end_a_line(self):
        self.assertEqual(list(lines_of("a\rb\x0bc\x0cd\x1ce\x85f\u2028g\n")), ["a\rb\x0bc\x0cd\x1ce\x85f\u2028g"])
        self.assertEqual(list(lines_of("a\r\nb")), ["a\r", "b"])


class TestWordsOf(unittest.TestCase):
    def test_words_with_single_spaces(self):
        self.assertEqual(words_of("amount"), [(1, "amount")])
        self.assertEqual(words_of("when 0 12 cell 3"), [(1, "when"), (6, "0"), (8, "12"), (11, "cell"), (16, "3")])

    def test_the_empty_line_has_one_empty_word(self):
        self.assertEqual(words_of(""), [(1, "")])

    def test_a_space_at_the_beginning(self):
        self.assertEqual(words_of(" a"), [(1, ""), (2, "a")])
        self.assertEqual(words_of("  a"), [(1, ""), (2, ""), (3, "a")])

    def test_a_space_at_the_end(self):
        self.assertEqual(words_of("a "), [(1, "a"), (3, "")])
        self.assertEqual(words_of("a  "), [(1, "a"), (3, ""), (4, "")])

    def test_several_spaces_in_a_row(self):
        self.assertEqual(words_of("ab   c"), [(1, "ab"), (4, ""), (5, ""), (6, "c")])

    def test_spaces_alone(self):
        self.assertEqual(words_of(" "), [(1, ""), (2, "")])
        self.assertEqual(words_of("  "), [(1, ""), (2, ""), (3, "")])

    def test_only_spaces_stand_between_words(self):
        self.assertEqual(words_of("a\tb c"), [(1, "a\tb"), (5, "c")])

    def test_changing_the_answer_changes_no_later_one(self):
        words_of("a b").clear()
        self.assertEqual(words_of("a b"), [(1, "a"), (3, "b")])


class TestReadWhole(unittest.TestCase):
    def test_whole_numbers(self):
        for number in (0, 1, 9, 10, 99, 100, 505, 999, -1, -9, -10, -99, -100, -999):
            with self.subTest(number=number):
                self.assertEqual(read_whole(str(number)), number)

    def test_every_number_of_three_digits(self):
        for number in range(-999, 1000):
            self.assertEqual(read_whole(str(number)), number)

    def test_what_is_none(self):
        words = ["-0", "00", "01", "-01", "-00", "007", "000", "1000", "-1000", "0000", "9999", "10000",
                 "", "-", "--1", "+1", "+0", "+", "1-", "1 ", " 1", "- 1", "1 1", "a", "1a", "a1", "0x1", "x",
                 "endless", "None", "1.", ".1", "1.0", "1,0", "1e1", "=1", "*1", "1\n", "\n1"]
        for word in words:
            with self.subTest(word=word):
                self.assertIsNone(read_whole(word))

    def test_what_python_takes_but_the_point_does_not(self):
        for word in ["1_0", "-1_0", "\u0661", "\u0661\u0662", "\uff11", "-\u0663", "1\u0660", "\t1", "1\t", "1\r",
                     "\u20071", "\u22121", "\u00b2", "\u2460"]:
            with self.subTest(word=word):
                self.assertIsNone(read_whole(word))

    def test_the_kind_of_the_answer(self):
        self.assertIs(type(read_whole("0")), int)
        self.assertIs(type(read_whole("1")), int)


if __name__ == "__main__":
    unittest.main()
