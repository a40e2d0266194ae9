import unittest
from itertools import product

from madecoins import draws
from tables import coins_up_to, table_of


class Tosses(unittest.TestCase):
    def test_each_0_or_1(self):
        for tossed, right in (([], True), ([0], True), ([1], True), ([2], False), ([0, 1, 1, 0], True),
                              ([2, 0, 0], False), ([0, 65535, 0], False), ([1, 1, 2], False)):
            self.assertEqual(draws.are_tosses(tossed), right, tossed)


class Order(unittest.TestCase):
    def test_a_head_ahead_of_a_tail_where_they_first_differ(self):
        for tosses in range(11):
            seen = [0] * (tosses + 1)
            for tossed in sorted(product((0, 1), repeat=tosses), reverse=True):
                self.assertEqual(draws.how_many_ahead(list(tossed)), seen[sum(tossed)], tossed)
                seen[sum(tossed)] += 1

    def test_what_a_coin_says_is_its_table(self):
        for row in coins_up_to(3):
            for tossed, yes in table_of(row).items():
                self.assertEqual(draws.says_yes(row, list(tossed)), yes, (row, tossed))


class Drawn(unittest.TestCase):
    def test_the_first_pair_of_unlike_tosses(self):
        for tosses in range(9):
            for tossed in product((0, 1), repeat=tosses):
                unlike = [at for at in range(0, tosses - 1, 2) if sum(tossed[at:at + 2]) == 1]
                self.assertEqual(draws.first_unlike_pair(list(tossed)), unlike[0] if unlike else None, tossed)

    def test_what_is_given_is_not_changed(self):
        row, tossed = [0, 2, 0], [1, 0]
        draws.are_tosses(tossed)
        draws.says_yes(row, tossed)
        draws.first_unlike_pair(tossed)
        self.assertEqual((row, tossed), ([0, 2, 0], [1, 0]))


if __name__ == "__main__":
    unittest.main()
