import unittest
from math import comb

from madecoins.polynomials import (by_powers, by_tosses, can_never_be, coin_with_fewest_tosses, is_always,
                                   is_polynomial)
from madecoins.rows import fits
from tables import POINTS, chance, coins_of, coins_up_to, powers_of, value


class IsPolynomial(unittest.TestCase):
    def test_lengths(self):
        for length in range(41):
            self.assertEqual(is_polynomial([0] * length), 1 <= length <= 7, length)

    def test_numbers(self):
        for number, right in ((-1001, False), (-1000, True), (0, True), (1000, True), (1001, False),
                              (-32768, False), (32767, False)):
            for place in range(7):
                numbers = [0] * 7
                numbers[place] = number
                self.assertEqual(is_polynomial(numbers), right, numbers)


class ByTosses(unittest.TestCase):
    def test_a_coins_polynomial_by_its_tosses_is_its_row(self):
        for row in coins_up_to(4):
            self.assertEqual(by_tosses(powers_of(row), len(row) - 1), row)

    def test_it_has_the_polynomials_value(self):
        for numbers in ([3], [0, 1], [5, -7], [0, 4, -4], [1, 0, 0], [1, 2, 3, -4, 5, -6, 1000], [0, 0, 0, -1000]):
            for tosses in range(len(numbers) - 1, 11):
                row = by_tosses(numbers, tosses)
                self.assertEqual(len(row), tosses + 1)
                for at in POINTS:
                    self.assertEqual(chance(row, at), value(numbers, at))


class ByPowers(unittest.TestCase):
    def test_it_has_the_coins_chance(self):
        for row in coins_up_to(4):
            numbers = by_powers(row)
            self.assertEqual(numbers, powers_of(row))
            self.assertEqual([value(numbers, at) for at in POINTS], [chance(row, at) for at in POINTS])

    def test_by_as_many_tosses_it_is_the_row_again(self):
        for row in coins_up_to(4) + [[1, 0, 45, 60, 7, 252, 0, 1, 44, 3, 1]]:
            self.assertEqual(by_tosses(by_powers(row), len(row) - 1), row)


class CanNeverBe(unittest.TestCase):
    def test_always_the_same_number(self):
        for numbers, number, right in (([0], 0, True), ([1], 1, True), ([1], 0, False), ([1, 0, 0], 1, True),
                                       ([1, 0, 1], 1, False), ([0, 0, 0], 0, True), ([0, 1], 0, False)):
            self.assertEqual(is_always(numbers, number), right)

    def test_no_coin_is_told_never_to_be(self):
        for row in coins_up_to(4):
            for b in (2, 3, 4, 5):
                for a in range(1, b):
                    self.assertFalse(can_never_be(by_powers(row), a, b), row)

    def test_what_is_told_is_no_coins_by_however_many_tosses(self):
        for numbers in ([0, 4, -4], [0, 2], [-1, 2], [0, 3], [-1, 1], [2], [-1], [1, -4, 4], [1, -1, 2]):
            self.assertTrue(can_never_be(numbers, 1, 2), numbers)
            for tosses in range(len(numbers) - 1, 40):
                self.assertFalse(fits(by_tosses(numbers, tosses)), numbers)


class FewestTosses(unittest.TestCase):
    def check(self, numbers, tosses):
        """The coin has so many tosses, has the polynomial, and none with fewer has."""
        row = coin_with_fewest_tosses(numbers)
        self.assertIsNotNone(row, numbers)
        self.assertEqual(len(row) - 1, tosses, numbers)
        self.assertTrue(all(0 <= row[j] <= comb(tosses, j) for j in range(tosses + 1)), row)
        for at in POINTS:
            self.assertEqual(chance(row, at), value(numbers, at))
        for fewer in range(len(numbers) - 1, tosses):
            self.assertFalse(fits(by_tosses(numbers, fewer)))

    def test_always_yes_and_always_no(self):
        self.assertEqual(coin_with_fewest_tosses([1]), [1])
        self.assertEqual(coin_with_fewest_tosses([0]), [0])
        self.assertIsNone(coin_with_fewest_tosses([2]))
        self.assertIsNone(coin_with_fewest_tosses([-1]))

    def test_ordinary_ones(self):
        self.assertEqual(coin_with_fewest_tosses([0, 1]), [0, 1])
        self.assertEqual(coin_with_fewest_tosses([1, -1]), [1, 0])
        self.assertEqual(coin_with_fewest_tosses([0, 2, -2]), [0, 2, 0])
        self.assertEqual(coin_with_fewest_tosses([0, 0, 3, -2]), [0, 0, 3, 1])

    def test_more_tosses_than_powers(self):
        self.assertEqual(coin_with_fewest_tosses([0, 3, -3]), [0, 3, 3, 0])
        self.assertEqual(coin_with_fewest_tosses([1, -3, 3]), [1, 0, 0, 1])
        for numbers, tosses in (([1, -6, 15, -10], 6), ([0, 2, -6, 5], 7), ([0, 3, -2, -1], 8),
                                ([1, -7, 20, -20, 6], 9)):
            self.check(numbers, tosses)

    def test_just_10_tosses_and_one_too_many(self):
        self.check([1, -7, 18, -12], 10)
        self.check([0, 6, -13, 8], 10)
        for numbers in ([1, -6, 12, -3, -4], [1, -6, 13, -10, 2]):
            self.assertTrue(fits(by_tosses(numbers, 11)))
            self.assertIsNone(coin_with_fewest_tosses(numbers))

    def test_seven_numbers(self):
        self.check([0, 0, 0, 0, 0, 0, 1], 6)
        self.check([1, -6, 15, -20, 15, -6, 1], 6)

    def test_none_ever(self):
        for numbers in ([0, 4, -4], [0, 2], [0, 1000], [0, -1000], [0, 0, 1, 1], [1, -1000, 1000], [0, 3, -2]):
            self.assertIsNone(coin_with_fewest_tosses(numbers), numbers)

    def test_a_last_number_of_0_counts_for_the_tosses(self):
        self.assertEqual(coin_with_fewest_tosses([1, 0]), [1, 1])
        self.assertEqual(coin_with_fewest_tosses([0, 1, 0]), [0, 1, 1])
        self.assertEqual(coin_with_fewest_tosses([0, 0, 0, 0, 0, 0, 0]), [0] * 7)
        self.assertEqual(coin_with_fewest_tosses([0, 3, -3, 0]), [0, 3, 3, 0])

    def test_1_at_1(self):
        for numbers, row in (([0, 1], [0, 1]), ([1, -1, 1], [1, 1, 1]), ([0, 2, -1], [0, 2, 1]),
                             ([0, 0, 1], [0, 0, 1]), ([1, 0, 0], [1, 2, 1])):
            self.assertEqual(coin_with_fewest_tosses(numbers), row)

    def test_every_coin_of_few_tosses_is_its_polynomials(self):
        for tosses in range(5):
            for row in coins_of(tosses):
                self.assertEqual(coin_with_fewest_tosses(powers_of(row)), row)

    def test_what_is_given_is_not_changed(self):
        numbers = [0, 3, -3, 0]
        coin_with_fewest_tosses(numbers)
        self.assertEqual(numbers, [0, 3, -3, 0])


if __name__ == "__main__":
    unittest.main()
