import unittest
from math import comb

from madecoins import rows
from tables import POINTS, chance, coins_of, coins_up_to, row_of, table_of

FULL = [comb(10, heads) for heads in range(11)]


def some_coins_of(tosses, many):
    """Coins of more tosses than can be gone through one by one."""
    made = []
    for seed in range(many):
        made.append([(seed * 7919 + heads * 104729 + seed * heads * 31) % (comb(tosses, heads) + 1)
                     for heads in range(tosses + 1)])
    return made


class Choose(unittest.TestCase):
    def test_as_many_ways_as_there_are(self):
        for n in range(12):
            for k in range(n + 3):
                self.assertEqual(rows.choose(n, k), comb(n, k))


class Powers(unittest.TestCase):
    def test_times_itself(self):
        for base in range(21):
            for times in range(11):
                self.assertEqual(rows.power(base, times), base ** times)

    def test_weighed(self):
        self.assertEqual(rows.weighed([5], 0, 0), 5)
        self.assertEqual(rows.weighed([1, 10, 100], 2, 3), 9 + 60 + 400)
        self.assertEqual(rows.weighed([1, 10, 100], 0, 3), 9)
        self.assertEqual(rows.weighed([1, 10, 100], 2, 0), 400)
        self.assertEqual(rows.weighed([-7, 3], 5, 4), -13)


class IsCoin(unittest.TestCase):
    def test_every_coin_is_one(self):
        for row in coins_up_to(3):
            self.assertTrue(rows.is_coin(row), row)

    def test_one_number_too_large(self):
        for tosses in range(11):
            row = [comb(tosses, heads) for heads in range(tosses + 1)]
            self.assertTrue(rows.is_coin(row), row)
            for heads in range(tosses + 1):
                wrong = list(row)
                wrong[heads] += 1
                self.assertFalse(rows.is_coin(wrong), wrong)

    def test_lengths(self):
        for length in range(41):
            self.assertEqual(rows.is_coin([0] * length), 1 <= length <= 11, length)


class MoreAndFewer(unittest.TestCase):
    def test_a_toss_behind_is_not_looked_at(self):
        for row in coins_up_to(3):
            table = table_of(row)
            expected = row_of(len(row), lambda tossed: table[tossed[:-1]])
            self.assertEqual(rows.toss_more(row), expected)

    def test_a_toss_more_does_not_change_the_chance(self):
        for tosses in range(10):
            for row in some_coins_of(tosses, 20):
                longer = rows.toss_more(row)
                self.assertTrue(rows.is_coin(longer))
                for at in POINTS:
                    self.assertEqual(chance(longer, at), chance(row, at))

    def test_a_toss_fewer_is_what_becomes_this_one_by_a_toss_more(self):
        self.assertIsNone(rows.toss_fewer([0]))
        self.assertIsNone(rows.toss_fewer([1]))
        for tosses in range(1, 5):
            becomes = {tuple(rows.toss_more(row)): row for row in coins_of(tosses - 1)}
            for row in coins_of(tosses):
                self.assertEqual(rows.toss_fewer(row), becomes.get(tuple(row)), row)

    def test_a_toss_fewer_takes_back_a_toss_more(self):
        for tosses in range(10):
            for row in some_coins_of(tosses, 20):
                self.assertEqual(rows.toss_fewer(rows.toss_more(row)), row)

    def test_a_toss_fewer_that_is_none(self):
        # The chance is that of fewer powers, yet one number would be too large, or below 0.
        self.assertIsNone(rows.toss_fewer([0, 3, 3, 0]))
        self.assertIsNone(rows.toss_fewer([1, 0, 0, 1]))
        # All numbers but the last fit.
        self.assertIsNone(rows.toss_fewer([0, 0, 1]))
        self.assertIsNone(rows.toss_fewer([1, 0]))
        self.assertIsNone(rows.toss_fewer([0, 1]))

    def test_coins_that_look_at_none_of_their_tosses(self):
        row = FULL
        for tosses in range(9, -1, -1):
            row = rows.toss_fewer(row)
            self.assertEqual(row, [comb(tosses, heads) for heads in range(tosses + 1)])
        self.assertEqual(rows.toss_fewer([0, 0, 0]), [0, 0])


class FewestTosses(unittest.TestCase):
    def test_back_through_all_tosses_more(self):
        for row in coins_up_to(3):
            left = rows.with_fewest_tosses(row)
            self.assertEqual(rows.stretched(left, len(row) - 1), row)
            self.assertIsNone(rows.toss_fewer(left))
            self.assertEqual(rows.with_fewest_tosses(rows.stretched(row, 10)), left)

    def test_what_is_given_is_neither_changed_nor_given_back(self):
        row = [0, 1]
        left = rows.with_fewest_tosses(row)
        left.append(5)
        self.assertEqual(row, [0, 1])


class Same(unittest.TestCase):
    def test_just_if_the_chances_are_like_everywhere(self):
        coins = coins_up_to(3)
        chances = [[chance(row, at) for at in POINTS] for row in coins]
        for first in range(len(coins)):
            for second in range(len(coins)):
                self.assertEqual(rows.are_same(coins[first], coins[second]), chances[first] == chances[second])


class ChanceAt(unittest.TestCase):
    def test_times_b_to_the_power_of_its_tosses(self):
        for tosses in range(11):
            for row in some_coins_of(tosses, 5):
                for a in range(13):
                    self.assertEqual(rows.chance_at(row, a, 12), chance(row, POINTS[a]) * 12 ** tosses)


class Opposite(unittest.TestCase):
    def test_yes_where_it_says_no(self):
        for row in coins_up_to(4):
            table = table_of(row)
            self.assertEqual(rows.opposite(row), row_of(len(row) - 1, lambda tossed: not table[tossed]))

    def test_always_yes_and_always_no(self):
        self.assertEqual(rows.opposite([1]), [0])
        self.assertEqual(rows.opposite([0]), [1])
        self.assertEqual(rows.opposite(FULL), [0] * 11)


class MadeOfOthers(unittest.TestCase):
    def test_both_and_either_by_their_tables(self):
        for first in coins_up_to(2):
            for second in coins_up_to(2):
                one, other, cut = table_of(first), table_of(second), len(first) - 1
                tosses = cut + len(second) - 1
                self.assertEqual(rows.both(first, second),
                                 row_of(tosses, lambda t: one[t[:cut]] and other[t[cut:]]))
                self.assertEqual(rows.either(first, second),
                                 row_of(tosses, lambda t: one[t[:cut]] or other[t[cut:]]))

    def test_if_by_its_tables(self):
        for first in coins_up_to(1) + [[0, 1, 0], [1, 2, 0]]:
            for second in coins_up_to(2):
                for third in coins_up_to(2):
                    self.assertEqual(rows.if_yes(first, second, third), self.if_table(first, second, third))

    def if_table(self, first, second, third):
        tables = [table_of(row) for row in (first, second, third)]
        cut = len(first) - 1
        second_end, third_end = cut + len(second) - 1, cut + len(third) - 1
        return row_of(max(second_end, third_end), lambda t: (
            tables[1][t[cut:second_end]] if tables[0][t[:cut]] else tables[2][t[cut:third_end]]))

    def test_of_by_its_tables(self):
        for first in coins_up_to(2):
            for second in coins_up_to(3):
                self.assertEqual(rows.tossed_by(first, second), self.of_table(first, second))
        for first in some_coins_of(3, 12) + some_coins_of(5, 6):
            for second in coins_up_to(2):
                self.assertEqual(rows.tossed_by(first, second), self.of_table(first, second))

    def of_table(self, first, second):
        outer, inner, each = table_of(first), table_of(second), len(second) - 1
        return row_of((len(first) - 1) * each, lambda t: outer[tuple(
            int(inner[t[at * each:(at + 1) * each]]) for at in range(len(first) - 1))])

    def test_chances_are_what_they_ought_to_be(self):
        for tosses in range(6):
            for first, second in zip(some_coins_of(tosses, 15), some_coins_of(5, 15)):
                for at in POINTS:
                    p, q = chance(first, at), chance(second, at)
                    self.assertEqual(chance(rows.opposite(first), at), 1 - p)
                    self.assertEqual(chance(rows.both(first, second), at), p * q)
                    self.assertEqual(chance(rows.either(first, second), at), p + q - p * q)
                    third = [second[0]]
                    r = chance(third, at)
                    self.assertEqual(chance(rows.if_yes(first, second, third), at), p * q + (1 - p) * r)
                    self.assertEqual(chance(rows.if_yes(first, third, second), at), p * r + (1 - p) * q)

    def test_chance_of_one_tossed_by_another(self):
        for outer, inner in ((0, 10), (10, 0), (1, 10), (10, 1), (2, 5), (5, 2), (3, 3)):
            for first, second in zip(some_coins_of(outer, 15), some_coins_of(inner, 15)):
                made = rows.tossed_by(first, second)
                self.assertEqual(len(made), outer * inner + 1)
                for at in POINTS:
                    self.assertEqual(chance(made, at), chance(first, chance(second, at)))

    def test_what_is_made_is_a_coin(self):
        for first in coins_up_to(2):
            for second in coins_up_to(2):
                for made in (rows.both(first, second), rows.either(first, second), rows.tossed_by(first, second),
                             rows.if_yes(first, second, first), rows.if_yes(first, first, second)):
                    self.assertTrue(rows.is_coin(made), made)

    def test_what_is_given_is_not_changed(self):
        first, second, third = [0, 1, 1], [1, 1], [1]
        rows.both(first, second)
        rows.either(first, second)
        rows.if_yes(first, second, third)
        rows.tossed_by(first, second)
        rows.toss_more(first)
        rows.toss_fewer(first)
        rows.opposite(first)
        self.assertEqual((first, second, third), ([0, 1, 1], [1, 1], [1]))


if __name__ == "__main__":
    unittest.main()
