"""The calls that look at coins, polynomials and tosses: row, coefs, chance, same, least, says, can, never, fair."""

import unittest
from fractions import Fraction
from itertools import product
from math import comb

from tables import (BEGIN, POINTS, ask, can, chance, chance_call, coefs, coin, coins_of, coins_up_to, drop, fair, least,
                    less, more, never, not_of, poly, powers_of, row_call, same, says, table_of, tell, value)

TEN = [comb(10, heads) for heads in range(11)]
SOME_TEN = [1, 0, 45, 60, 7, 252, 0, 1, 44, 3, 1]
HUGE = 4294967295


def look(row, *calls):
    """What these calls answer where there is this one coin."""
    return tell(BEGIN, coin(*row), *calls)[2:]


class Row(unittest.TestCase):
    def test_how_many_numbers_and_they(self):
        for row in coins_up_to(3) + [TEN, SOME_TEN, [0] * 11]:
            self.assertEqual(look(row, row_call(0)), [[len(row), *row]])

    def test_a_coin_of_no_tosses(self):
        self.assertEqual(look([0], row_call(0)), [[1, 0]])
        self.assertEqual(look([1], row_call(0)), [[1, 1]])

    def test_of_several_coins(self):
        self.assertEqual(tell(BEGIN, coin(0, 1), poly(0, 3, -3), not_of(0), row_call(2), row_call(0), row_call(1),
                              drop(0), row_call(1), row_call(0))[4:],
                         [[2, 1, 0], [2, 0, 1], [4, 0, 3, 3, 0], [2], [2, 1, 0], [4, 0, 3, 3, 0]])

    def test_no_such_coin(self):
        self.assertEqual(ask(BEGIN, row_call(0)), [0, -2])
        self.assertEqual(look([1], row_call(1), row_call(8), row_call(HUGE)), [[-2]] * 3)


class Coefs(unittest.TestCase):
    def test_its_chance_multiplied_out(self):
        for row in coins_up_to(3) + [TEN, SOME_TEN, [0] * 11]:
            self.assertEqual(look(row, coefs(0)), [[len(row), *powers_of(row)]])

    def test_it_has_the_coins_chance(self):
        for row in coins_up_to(3) + [TEN, SOME_TEN]:
            numbers = look(row, coefs(0))[0][1:]
            self.assertEqual(len(numbers), len(row))
            for at in POINTS:
                self.assertEqual(value(numbers, at), chance(row, at))

    def test_ordinary(self):
        self.assertEqual(look([0, 2, 0], coefs(0)), [[3, 0, 2, -2]])
        self.assertEqual(look([1, 0, 0, 1], coefs(0)), [[4, 1, -3, 3, 0]])
        self.assertEqual(look([0, 0, 3, 1], coefs(0)), [[4, 0, 0, 3, -2]])

    def test_a_coin_of_no_tosses(self):
        self.assertEqual(look([0], coefs(0)), [[1, 0]])
        self.assertEqual(look([1], coefs(0)), [[1, 1]])

    def test_always_yes_and_always_no_have_as_many_numbers_as_the_row(self):
        self.assertEqual(look(TEN, coefs(0)), [[11, 1] + [0] * 10])
        self.assertEqual(look([0] * 11, coefs(0)), [[11] + [0] * 11])

    def test_the_coin_of_a_polynomial_has_that_polynomial(self):
        for numbers in ([0, 1], [0, 3, -3], [1, -3, 3], [1, -7, 18, -12], [1, 0], [0, 0, 0, 0, 0, 0, 1]):
            answer = tell(BEGIN, poly(*numbers), coefs(0))[2]
            self.assertEqual(answer[1:], numbers + [0] * (answer[0] - len(numbers)))

    def test_a_coin_is_its_polynomials(self):
        for row in coins_up_to(3):
            numbers = look(row, coefs(0))[0][1:]
            self.assertEqual(look(row, poly(*numbers), row_call(1)), [[1], [len(row), *row]])

    def test_no_such_coin(self):
        self.assertEqual(ask(BEGIN, coefs(0)), [0, -2])
        self.assertEqual(look([1], coefs(1), coefs(HUGE)), [[-2]] * 2)


class Chance(unittest.TestCase):
    def test_times_b_to_the_power_of_its_tosses(self):
        for row in coins_up_to(2) + [[0, 3, 2, 1], SOME_TEN]:
            for b in range(1, 21):
                for a in range(b + 1):
                    power = b ** (len(row) - 1)
                    told = chance(row, Fraction(a, b)) * power
                    self.assertEqual(look(row, chance_call(0, a, b)), [[0, told, power]])

    def test_ordinary(self):
        self.assertEqual(look([0, 2, 0], chance_call(0, 1, 3)), [[0, 4, 9]])
        # It is not made shorter: 2 by 6 is told times 6 to the power.
        self.assertEqual(look([0, 2, 0], chance_call(0, 2, 6)), [[0, 16, 36]])

    def test_b(self):
        for b, answer in ((0, [-22]), (1, [0, 0, 1]), (2, [0, 0, 2]), (20, [0, 0, 20]), (21, [-22]), (HUGE, [-22])):
            self.assertEqual(look([0, 1], chance_call(0, 0, b)), [answer], b)

    def test_a(self):
        for a, answer in ((0, [0, 0, 20]), (1, [0, 1, 20]), (19, [0, 19, 20]), (20, [0, 20, 20]), (21, [-22]),
                          (HUGE, [-22])):
            self.assertEqual(look([0, 1], chance_call(0, a, 20)), [answer], a)
        self.assertEqual(look([1, 0], chance_call(0, 1, 1), chance_call(0, 0, 1), chance_call(0, 2, 1)),
                         [[0, 0, 1], [0, 1, 1], [-22]])

    def test_a_coin_of_no_tosses(self):
        for answer in (0, 1):
            self.assertEqual(look([answer], chance_call(0, 0, 1), chance_call(0, 1, 1), chance_call(0, 7, 20)),
                             [[0, answer, 1]] * 3)
        self.assertEqual(look([1], chance_call(0, 0, 0)), [[-22]])

    def test_always_yes_and_always_no(self):
        self.assertEqual(look(TEN, chance_call(0, 0, 20), chance_call(0, 20, 20), chance_call(0, 3, 20)),
                         [[0, 20 ** 10, 20 ** 10]] * 3)
        self.assertEqual(look([0] * 11, chance_call(0, 3, 20)), [[0, 0, 20 ** 10]])

    def test_a_toss_more_or_fewer_does_not_change_it(self):
        for row in ([0, 1], [1], [0, 3, 3, 0]):
            first, more_tosses = tell(BEGIN, coin(*row), more(0), chance_call(0, 2, 7), chance_call(1, 2, 7))[3:]
            self.assertEqual(more_tosses, [0, 7 * first[1], 7 * first[2]])
        first, fewer_tosses = tell(BEGIN, coin(0, 1, 1), less(0), chance_call(0, 2, 7), chance_call(1, 2, 7))[3:]
        self.assertEqual(first, [0, 7 * fewer_tosses[1], 7 * fewer_tosses[2]])

    def test_refusals_in_their_order(self):
        self.assertEqual(ask(BEGIN, chance_call(0, 1, 2), chance_call(0, 2, 1)), [0, -2, -2])
        self.assertEqual(look([1], chance_call(1, 1, 2), chance_call(1, 0, 0), chance_call(1, 9, 3),
                              chance_call(HUGE, 0, 21), chance_call(0, 0, 21)), [[-2]] * 4 + [[-22]])


class Same(unittest.TestCase):
    def test_just_if_they_have_like_chances(self):
        coins = coins_up_to(2) + [[0, 1, 2, 1], [0, 3, 3, 0], [1, 3, 3, 1], [0, 0, 1, 1], [1, 0, 0, 1]]
        for first in coins:
            for second in coins:
                like = all(chance(first, at) == chance(second, at) for at in POINTS)
                self.assertEqual(look(first, coin(*second), same(0, 1), same(1, 0))[1:], [[int(like)]] * 2)

    def test_ordinary(self):
        self.assertEqual(look([0, 1], more(0), more(1), not_of(0), same(0, 2), same(2, 1), same(0, 3), same(0, 0))[3:],
                         [[1], [1], [0], [1]])

    def test_coins_of_no_tosses(self):
        self.assertEqual(look([1], coin(0), coin(*TEN), coin(*[0] * 11), same(0, 1), same(0, 2), same(3, 1),
                              same(2, 1), same(0, 0))[3:], [[0], [1], [1], [0], [1]])

    def test_unlike_at_one_number_of_10_tosses(self):
        for heads in range(11):
            other = list(SOME_TEN)
            other[heads] += 1 if other[heads] == 0 else -1
            self.assertEqual(look(SOME_TEN, coin(*other), same(0, 1), same(1, 1))[1:], [[0], [1]])

    def test_no_such_coin(self):
        self.assertEqual(ask(BEGIN, same(0, 0)), [0, -2])
        self.assertEqual(look([1], same(0, 1), same(1, 0), same(1, 1), same(HUGE, 0), same(0, HUGE)), [[-2]] * 5)


class Least(unittest.TestCase):
    def test_back_to_what_it_was_before_tosses_more(self):
        for row in ([0, 1], [1, 0], [0, 2, 0], [0, 3, 3, 0], [1, 0, 0, 1], [0, 0, 1]):
            for many in range(7):
                calls = [BEGIN, coin(*row)] + [more(i) for i in range(many)]
                self.assertEqual(tell(*calls, least(many))[-1], [len(row), *row])

    def test_none_is_the_same_with_fewer(self):
        for row in coins_up_to(3):
            left = look(row, least(0))[0][1:]
            self.assertEqual(look(row, coin(*left), same(0, 1), less(1))[1:], [[1], [-33]])
            for fewer in coins_up_to(len(left) - 2):
                self.assertEqual(look(row, coin(*fewer), same(0, 1))[1:], [[0]])

    def test_a_coin_that_looks_at_none_of_its_tosses(self):
        for tosses in range(11):
            self.assertEqual(look([comb(tosses, heads) for heads in range(tosses + 1)], least(0)), [[1, 1]])
            self.assertEqual(look([0] * (tosses + 1), least(0)), [[1, 0]])

    def test_it_adds_nothing(self):
        self.assertEqual(look([0, 1, 1], least(0), row_call(0), row_call(1)), [[2, 0, 1], [3, 0, 1, 1], [-2]])

    def test_no_such_coin(self):
        self.assertEqual(ask(BEGIN, least(0)), [0, -2])
        self.assertEqual(look([1], least(1), least(HUGE)), [[-2]] * 2)


class Says(unittest.TestCase):
    def test_every_row_of_tosses_of_small_coins(self):
        for row in coins_up_to(3) + [[1, 2, 3, 4, 1], [0, 4, 2, 0, 0], [1, 1, 1, 1, 1]]:
            table = table_of(row)
            self.assertEqual(look(row, *[says(0, *tossed) for tossed in table]),
                             [[int(table[tossed])] for tossed in table], row)

    def test_a_head_ahead_of_a_tail_where_they_first_differ(self):
        order = [(1, 1, 0, 0), (1, 0, 1, 0), (1, 0, 0, 1), (0, 1, 1, 0), (0, 1, 0, 1), (0, 0, 1, 1)]
        for many in range(7):
            self.assertEqual(look([0, 0, many, 0, 0], *[says(0, *tossed) for tossed in order]),
                             [[1]] * many + [[0]] * (6 - many))

    def test_10_tosses(self):
        table = table_of(SOME_TEN)
        rows = [tossed for tossed in product((1, 0), repeat=10)]
        for start in range(0, 1024, 200):
            asked = rows[start:start + 200]
            self.assertEqual(look(SOME_TEN, *[says(0, *tossed) for tossed in asked]),
                             [[int(table[tossed])] for tossed in asked])

    def test_what_it_says_is_its_row(self):
        for row in coins_of(3):
            yes = [0] * 4
            for tossed in product((0, 1), repeat=3):
                yes[sum(tossed)] += look(row, says(0, *tossed))[0][0]
            self.assertEqual(yes, row)

    def test_a_coin_of_no_tosses(self):
        self.assertEqual(look([1], says(0), says(0, 1), says(0, 0)), [[1], [-22], [-22]])
        self.assertEqual(look([0], says(0), says(0, 1)), [[0], [-22]])

    def test_always_yes_and_always_no(self):
        for tossed in product((0, 1), repeat=3):
            self.assertEqual(look([1, 3, 3, 1], coin(0, 0, 0, 0), says(0, *tossed), says(1, *tossed))[1:], [[1], [0]])

    def test_rows_of_too_few_and_of_too_many_tosses(self):
        for tosses in range(11):
            row = [comb(tosses, heads) for heads in range(tosses + 1)]
            for length in (0, tosses - 1, tosses, tosses + 1, 40):
                if length >= 0:
                    self.assertEqual(look(row, says(0, *[0] * length), says(0, *[1] * length)),
                                     [[1 if length == tosses else -22]] * 2)

    def test_tosses_that_are_neither_0_nor_1(self):
        for wrong in (2, 3, 65535):
            for place in range(3):
                tossed = [0, 0, 0]
                tossed[place] = wrong
                self.assertEqual(look([1, 3, 3, 1], says(0, *tossed)), [[-22]])

    def test_refusals_in_their_order(self):
        self.assertEqual(ask(BEGIN, says(0), says(0, 2)), [0, -2, -2])
        self.assertEqual(look([0, 1], says(1, 1), says(1, 2), says(HUGE), says(1, *[65535] * 40), says(0)),
                         [[-2]] * 4 + [[-22]])


class Can(unittest.TestCase):
    def test_the_fewest_tosses(self):
        for numbers, tosses in (([0], 0), ([1], 0), ([0, 1], 1), ([1, -1], 1), ([0, 2, -2], 2), ([0, 3, -3], 3),
                                ([1, -6, 15, -10], 6), ([1, -7, 20, -20, 6], 9), ([1, -7, 18, -12], 10),
                                ([0, 6, -13, 8], 10), ([0, 0, 0, 0, 0, 0, 1], 6)):
            self.assertEqual(ask(BEGIN, can(*numbers)), [0, tosses], numbers)

    def test_as_many_as_the_coin_that_poly_adds_has(self):
        for numbers in ([0], [1, 0], [0, 3, -3, 0], [1, -3, 3], [1, -7, 18, -12]):
            tosses, added, told = tell(BEGIN, can(*numbers), poly(*numbers), row_call(0))[1:]
            self.assertEqual((added, told[0]), ([0], tosses[0] + 1))

    def test_no_coins(self):
        self.assertEqual(ask(BEGIN, can(2), can(-1), can(0, 4, -4), can(0, 2), can(1000), can(0, -1000),
                             can(1, -6, 12, -3, -4), can(1, -6, 13, -10, 2)), [0] + [-33] * 8)

    def test_a_last_number_of_0(self):
        self.assertEqual(ask(BEGIN, can(1, 0), can(0, 1, 0), can(*[0] * 7), can(0, 3, -3, 0), can(0, 3, -3, 0, 0)),
                         [0, 1, 2, 6, 3, 4])

    def test_1_at_1(self):
        self.assertEqual(ask(BEGIN, can(0, 1), can(1, -1, 1), can(0, 2, -1), can(0, 0, 1)), [0, 1, 2, 2, 2])

    def test_lengths(self):
        for length in range(41):
            self.assertEqual(ask(BEGIN, can(*[0] * length)), [0, length - 1 if 1 <= length <= 7 else -22], length)

    def test_numbers(self):
        for number, answer in ((1000, -33), (-1000, -33), (1001, -22), (-1001, -22), (32767, -22), (-32768, -22)):
            self.assertEqual(ask(BEGIN, can(0, number), can(number), can(0, 0, 0, 0, 0, 0, number)),
                             [0, answer, answer, answer])

    def test_8_coins_are_none_too_many(self):
        self.assertEqual(ask(BEGIN, *[coin(1)] * 8, can(0, 1), can(2))[9:], [1, -33])


def seen_never(numbers, at):
    """Whether it can't ever be, seen there, in the document's words."""
    told = value(numbers, at)
    constant = not any(numbers[1:])
    return (told < 0 or told > 1 or (told == 0 and any(numbers))
            or (told == 1 and not (numbers[0] == 1 and constant)))


class Never(unittest.TestCase):
    def test_four_times_a_chance_times_one_less_it(self):
        self.assertEqual(ask(BEGIN, never(1, 2, 0, 4, -4), never(10, 20, 0, 4, -4), never(1, 3, 0, 4, -4),
                             never(2, 3, 0, 4, -4), never(9, 20, 0, 4, -4)), [0, 1, 1, 0, 0, 0])

    def test_values_below_0_at_0_between_at_1_and_above(self):
        # At 1 by 2, times 2: below 0, 0, between, 1, above 1.
        self.assertEqual(ask(BEGIN, never(1, 2, -1, 1), never(1, 2, -1, 2), never(1, 2, 0, 1), never(1, 2, 0, 2),
                             never(1, 2, 0, 3)), [0, 1, 1, 0, 1, 1])
        # At 1 by 3, times 9: -1, 0, 1, 8, 9, 10.
        self.assertEqual(ask(BEGIN, never(1, 3, 0, -1, 2), never(1, 3, 0, -1, 3), never(1, 3, 0, 0, 1),
                             never(1, 3, 1, 0, -1), never(1, 3, 0, 2, 3), never(1, 3, 1, 0, 1)), [0, 1, 1, 0, 0, 1, 1])

    def test_constants(self):
        self.assertEqual(ask(BEGIN, never(1, 2, 0), never(1, 2, 1), never(1, 2, 2), never(1, 2, -1), never(3, 20, 0),
                             never(3, 20, 1)), [0, 0, 0, 1, 1, 0, 0])

    def test_constants_with_last_numbers_of_0(self):
        self.assertEqual(ask(BEGIN, never(1, 2, 0, 0), never(1, 2, 1, 0, 0), never(1, 2, 2, 0), never(1, 2, -1, 0),
                             never(1, 2, *[0] * 7), never(1, 2, 1, *[0] * 6)), [0, 0, 0, 1, 1, 0, 0])

    def test_1_and_the_first_number_is_1_too(self):
        self.assertEqual(ask(BEGIN, never(1, 2, 1, -1, 2), never(1, 2, 1, 0, -1, 2), never(1, 2, 1, 2, -4)),
                         [0, 1, 1, 1])

    def test_0_and_the_first_number_is_0_too(self):
        self.assertEqual(ask(BEGIN, never(1, 2, 0, -1, 2), never(1, 2, 0, 0, 1, -2)), [0, 1, 1])

    def test_as_the_words_say(self):
        for numbers in product((-1, 0, 1, 2), (-4, -1, 0, 1, 3), (-2, 0, 4)):
            asked = [(a, b) for b in (2, 3, 4, 7, 20) for a in range(1, b)]
            self.assertEqual(ask(BEGIN, *[never(a, b, *numbers) for a, b in asked])[1:],
                             [int(seen_never(numbers, Fraction(a, b))) for a, b in asked], numbers)

    def test_seven_numbers(self):
        numbers = [1, -1000, 1000, 999, -5, 4, -1000]
        for b in range(2, 21):
            self.assertEqual(ask(BEGIN, *[never(a, b, *numbers) for a in range(1, b)])[1:],
                             [int(seen_never(numbers, Fraction(a, b))) for a in range(1, b)])

    def test_what_is_told_is_no_coins(self):
        points = [(a, b) for b in (2, 3, 5, 20) for a in range(1, b)]
        for row in coins_up_to(3):
            self.assertEqual(ask(BEGIN, *[never(a, b, *powers_of(row)) for a, b in points])[1:], [0] * len(points), row)
        for numbers in product((-1, 0, 1, 2), (-3, -1, 0, 2, 4), (-4, 0, 3)):
            if 1 in ask(BEGIN, *[never(a, b, *numbers) for a, b in points]):
                self.assertEqual(ask(BEGIN, can(*numbers)), [0, -33])

    def test_b(self):
        for b, answer in ((0, -22), (1, -22), (2, 0), (20, 0), (21, -22), (HUGE, -22)):
            self.assertEqual(ask(BEGIN, never(1, b, 0, 1)), [0, answer], b)
        self.assertEqual(ask(BEGIN, never(0, 1, 0, 1), never(0, 0, 0, 1), never(1, 1, 0, 1)), [0, -22, -22, -22])

    def test_a(self):
        for b in (2, 3, 20):
            for a, answer in ((0, -22), (1, 0), (b - 1, 0), (b, -22), (b + 1, -22), (HUGE, -22)):
                self.assertEqual(ask(BEGIN, never(a, b, 0, 1)), [0, answer], (a, b))

    def test_no_polynomial_as_told(self):
        for length in range(41):
            self.assertEqual(ask(BEGIN, never(1, 2, *[0] * length)), [0, 0 if 1 <= length <= 7 else -22], length)
        for number, answer in ((1000, 1), (-1000, 1), (1001, -22), (-1001, -22), (32767, -22), (-32768, -22)):
            self.assertEqual(ask(BEGIN, never(1, 2, number), never(1, 2, 0, 0, number)), [0, answer, answer])

    def test_no_coin_is_asked_for(self):
        self.assertEqual(ask(BEGIN, never(19, 20, 0, 1), coin(1), never(19, 20, 0, 1)), [0, 0, 0, 0])


class Fair(unittest.TestCase):
    def test_the_first_of_two_unlike(self):
        self.assertEqual(tell(BEGIN, fair(1, 0), fair(0, 1), fair(1, 1, 0, 1), fair(0, 0, 1, 1, 1, 0),
                              fair(1, 0, 0, 1))[1:], [[1, 2], [0, 2], [0, 4], [1, 6], [1, 2]])

    def test_nothing_is_drawn(self):
        self.assertEqual(ask(BEGIN, fair(), fair(0), fair(1), fair(0, 0), fair(1, 1), fair(1, 1, 0, 0)),
                         [0] + [-33] * 6)

    def test_pairs_begin_at_the_first_toss(self):
        self.assertEqual(tell(BEGIN, fair(0, 0, 1, 1), fair(1, 1, 0, 0, 1, 1, 1, 0))[1:], [[-33], [1, 8]])

    def test_a_single_toss_left_counts_for_nothing(self):
        self.assertEqual(tell(BEGIN, fair(0, 0, 1), fair(1, 1, 0), fair(0, 1, 1), fair(1, 1, 0, 1, 0))[1:],
                         [[-33], [-33], [0, 2], [0, 4]])

    def test_drawn_by_the_last_two(self):
        for pairs in (0, 1, 2, 20, 499):
            for last in ((0, 1), (1, 0)):
                for filler in (0, 1):
                    self.assertEqual(tell(BEGIN, fair(*[filler] * (2 * pairs), *last))[1], [last[0], 2 * pairs + 2])

    def test_1000_tosses_that_draw_nothing(self):
        self.assertEqual(ask(BEGIN, fair(*[1] * 1000), fair(*[0] * 1000), fair(*[1] * 999)), [0, -33, -33, -33])

    def test_a_number_above_1(self):
        self.assertEqual(ask(BEGIN, fair(2), fair(2, 0), fair(0, 2), fair(0, 0, 2), fair(65535, 65535)),
                         [0] + [-22] * 5)

    def test_a_number_above_1_behind_what_is_drawn(self):
        self.assertEqual(ask(BEGIN, fair(1, 0, 2), fair(0, 1, 0, 0, 65535), fair(1, 0, *[0] * 997, 2)),
                         [0, -22, -22, -22])

    def test_as_many_draw_1_as_0(self):
        for tosses in range(8):
            drawn = {}
            for tossed in product((0, 1), repeat=tosses):
                answer = tell(BEGIN, fair(*tossed))[1]
                drawn.setdefault(sum(tossed), []).append(answer[0])
            for heads in drawn:
                self.assertEqual(drawn[heads].count(1), drawn[heads].count(0), (tosses, heads))


if __name__ == "__main__":
    unittest.main()
