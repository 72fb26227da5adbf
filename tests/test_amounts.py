"""Point 1: amounts, endless, their order, shifts and the floor at 0."""

import unittest

from circlesettle.amounts import all_at_most, at_most, greatest_of, is_amount, least_of, shifted

GREAT = 10 ** 60


class TestIsAmount(unittest.TestCase):
    def test_amounts(self):
        for value in (None, 0, 1, 999, 1000, GREAT):
            with self.subTest(value=value):
                self.assertIs(is_amount(value), True)

    def test_true_and_false_are_none(self):
        self.assertIs(is_amount(True), False)
        self.assertIs(is_amount(False), False)

    def test_negative_numbers_are_none(self):
        for value in (-1, -999, -GREAT):
            with self.subTest(value=value):
                self.assertIs(is_amount(value), False)

    def test_other_values_are_none(self):
        others = ("", "0", "7", "endless", "None", b"", b"1", (), (1,), [], [1], [None], {}, {1: 1},
                  set(), {1}, 0.0, 1.0, float("inf"), float("nan"), 1j, int, object(), len, range(3))
        for value in others:
            with self.subTest(value=value):
                self.assertIs(is_amount(value), False)


class TestAtMost(unittest.TestCase):
    def test_numbers(self):
        self.assertIs(at_most(0, 0), True)
        self.assertIs(at_most(3, 4), True)
        self.assertIs(at_most(4, 4), True)
        self.assertIs(at_most(5, 4), False)
        self.assertIs(at_most(1, 0), False)

    def test_endless_is_greater_than_every_number(self):
        for number in (0, 1, 999, GREAT):
            with self.subTest(number=number):
                self.assertIs(at_most(number, None), True)
                self.assertIs(at_most(None, number), False)

    def test_endless_is_at_most_endless(self):
        self.assertIs(at_most(None, None), True)

    def test_numbers_far_beyond_a_thousand(self):
        self.assertIs(at_most(GREAT, GREAT), True)
        self.assertIs(at_most(GREAT, GREAT + 1), True)
        self.assertIs(at_most(GREAT + 1, GREAT), False)


class TestLeastAndGreatest(unittest.TestCase):
    def test_several_amounts(self):
        self.assertEqual(least_of([4, 2, 9]), 2)
        self.assertEqual(greatest_of([4, 2, 9]), 9)
        self.assertEqual(least_of([2, 4]), 2)
        self.assertEqual(greatest_of([9, 4]), 9)

    def test_one_amount(self):
        for amount in (0, 5, None, GREAT):
            with self.subTest(amount=amount):
                self.assertEqual(least_of([amount]), amount)
                self.assertEqual(greatest_of([amount]), amount)

    def test_equal_amounts(self):
        self.assertEqual(least_of([3, 3, 3]), 3)
        self.assertEqual(greatest_of([3, 3, 3]), 3)
        self.assertEqual(least_of([0, 0]), 0)
        self.assertEqual(greatest_of([0, 0]), 0)

    def test_endless_at_each_place(self):
        for amounts in ([None, 5, 7], [5, None, 7], [5, 7, None], [None, 5, None, 7]):
            with self.subTest(amounts=amounts):
                self.assertEqual(least_of(amounts), 5)
                self.assertIsNone(greatest_of(amounts))

    def test_endless_beside_zero(self):
        self.assertEqual(least_of([None, 0]), 0)
        self.assertIsNone(greatest_of([0, None]))

    def test_endless_alone(self):
        self.assertIsNone(least_of([None, None]))
        self.assertIsNone(greatest_of([None, None]))

    def test_numbers_far_beyond_a_thousand(self):
        self.assertEqual(least_of([GREAT + 1, None, GREAT]), GREAT)
        self.assertEqual(greatest_of([GREAT, GREAT + 1, 3]), GREAT + 1)

    def test_the_list_stays(self):
        amounts = [4, None, 2]
        least_of(amounts)
        greatest_of(amounts)
        self.assertEqual(amounts, [4, None, 2])


class TestShifted(unittest.TestCase):
    def test_above_the_floor(self):
        self.assertEqual(shifted(3, 4), 7)
        self.assertEqual(shifted(3, -2), 1)
        self.assertEqual(shifted(0, 5), 5)
        self.assertEqual(shifted(3, 0), 3)

    def test_on_the_floor(self):
        self.assertEqual(shifted(3, -3), 0)
        self.assertEqual(shifted(0, 0), 0)

    def test_below_the_floor(self):
        self.assertEqual(shifted(3, -4), 0)
        self.assertEqual(shifted(0, -1), 0)
        self.assertEqual(shifted(1, -999), 0)

    def test_endless_stays_endless(self):
        for shift in (0, 1, -1, 999, -999, GREAT, -GREAT):
            with self.subTest(shift=shift):
                self.assertIsNone(shifted(None, shift))

    def test_numbers_far_beyond_a_thousand(self):
        self.assertEqual(shifted(GREAT, 1), GREAT + 1)
        self.assertEqual(shifted(GREAT, GREAT), 2 * GREAT)
        self.assertEqual(shifted(GREAT, -1), GREAT - 1)
        self.assertEqual(shifted(GREAT, -GREAT), 0)
        self.assertEqual(shifted(GREAT, -GREAT - 1), 0)
        self.assertEqual(shifted(2, -GREAT), 0)


class TestAllAtMost(unittest.TestCase):
    def test_equal_lists(self):
        self.assertIs(all_at_most([1, None, 0], [1, None, 0]), True)

    def test_lesser_lists(self):
        self.assertIs(all_at_most([1, 2, 3], [2, 3, 4]), True)
        self.assertIs(all_at_most([1, 2, 3], [None, None, None]), True)

    def test_greater_at_one_place(self):
        for place in range(3):
            x = [1, 2, 3]
            x[place] += 1
            with self.subTest(place=place):
                self.assertIs(all_at_most(x, [1, 2, 3]), False)
                self.assertIs(all_at_most([1, 2, 3], x), True)

    def test_greater_at_one_place_and_lesser_at_another(self):
        self.assertIs(all_at_most([0, 9], [5, 5]), False)
        self.assertIs(all_at_most([9, 0], [5, 5]), False)

    def test_endless_at_one_place(self):
        self.assertIs(all_at_most([1, None], [1, GREAT]), False)
        self.assertIs(all_at_most([1, GREAT], [1, None]), True)

    def test_empty_lists(self):
        self.assertIs(all_at_most([], []), True)

    def test_numbers_far_beyond_a_thousand(self):
        self.assertIs(all_at_most([GREAT, 0], [GREAT + 1, 0]), True)
        self.assertIs(all_at_most([GREAT + 1, 0], [GREAT, 0]), False)

    def test_the_lists_stay(self):
        x, y = [1, None], [2, 3]
        all_at_most(x, y)
        self.assertEqual((x, y), ([1, None], [2, 3]))


if __name__ == "__main__":
    unittest.main()
