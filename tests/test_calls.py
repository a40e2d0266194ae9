import unittest
from math import comb

from madecoins.tosses import answers
from tables import (BACK, BEGIN, STATE, and_of, ask, can, chance_call, coefs, coin, drop, fair, holder_after, if_then,
                    least, less, more, never, not_of, of, or_of, poly, row_call, rows_after, same, says, split, tell)

TEN = [comb(10, heads) for heads in range(11)]
HUGE = 4294967295
EIGHT = [BEGIN] + [coin(0, 1)] * 8

# One call of each kind, in the order of their numbers.
ALL_BUT_BEGIN = [coin(0, 1), poly(0, 1), drop(0), more(0), less(0), not_of(0), and_of(0, 0), or_of(0, 0),
                 if_then(0, 0, 0), of(0, 0), row_call(0), coefs(0), chance_call(0, 1, 2), same(0, 0), least(0),
                 says(0, 1), can(0, 1), never(1, 2, 0, 1), fair(1, 0), BACK, STATE]


class Begin(unittest.TestCase):
    def test_answers_0(self):
        self.assertEqual(answers([0]), [1, 0])

    def test_before_it_all_others_answer_not_begun(self):
        self.assertEqual(ask(*ALL_BUT_BEGIN), [-11] * 21)

    def test_not_begun_is_told_whatever_is_handed_in(self):
        self.assertEqual(ask(coin(), coin(*[65535] * 40), poly(), poly(*[-32768] * 40), drop(HUGE), more(HUGE),
                             if_then(HUGE, 0, HUGE), of(0, HUGE)), [-11] * 8)

    def test_what_was_told_before_it_is_not_there(self):
        self.assertEqual(ask(coin(0, 1), BEGIN, drop(0), coin(0, 1)), [-11, 0, -2, 0])

    def test_a_second_one_leaves_no_coins(self):
        self.assertEqual(ask(BEGIN, coin(0, 1), coin(1), BEGIN, drop(0), coin(1), drop(0)), [0, 0, 1, 0, -2, 0, 0])
        self.assertEqual(ask(*EIGHT, BEGIN, coin(1)), [0] + list(range(8)) + [0, 0])

    def test_a_second_one_leaves_no_changes(self):
        holder = holder_after(BEGIN, coin(1), drop(0), BEGIN)
        self.assertEqual((holder.rows, holder.past), ([], []))


class Coin(unittest.TestCase):
    def test_numbered_from_0(self):
        self.assertEqual(ask(BEGIN, coin(0, 1), coin(1), coin(1, 2, 0)), [0, 0, 1, 2])
        self.assertEqual(rows_after(BEGIN, coin(0, 1), coin(1), coin(1, 2, 0)), [[0, 1], [1], [1, 2, 0]])

    def test_lengths(self):
        self.assertEqual(ask(BEGIN, coin(), coin(1), coin(0), coin(*TEN), coin(*[0] * 11), coin(*[0] * 12),
                             coin(*[0] * 40)), [0, -22, 0, 1, 2, 3, -22, -22])
        self.assertEqual(ask(BEGIN, coin(*[comb(11, heads) for heads in range(12)])), [0, -22])

    def test_more_than_there_are(self):
        self.assertEqual(ask(BEGIN, coin(2), coin(0, 2), coin(2, 0), coin(0, 3, 0), coin(0, 2, 0), coin(65535)),
                         [0, -22, -22, -22, -22, 0, -22])
        for heads in range(11):
            wrong = list(TEN)
            wrong[heads] += 1
            self.assertEqual(ask(BEGIN, coin(*wrong)), [0, -22])

    def test_8_at_most_and_that_is_told_last(self):
        self.assertEqual(ask(*EIGHT, coin(1), coin(2), drop(7), coin(1), coin(1)),
                         [0] + list(range(8)) + [-28, -22, 7, 7, -28])


class Poly(unittest.TestCase):
    def test_adds_the_coin_with_the_fewest_tosses(self):
        self.assertEqual(ask(BEGIN, poly(0, 1), poly(0, 3, -3), poly(1), poly(0)), [0, 0, 1, 2, 3])
        self.assertEqual(rows_after(BEGIN, poly(0, 1), poly(0, 3, -3), poly(1), poly(0)),
                         [[0, 1], [0, 3, 3, 0], [1], [0]])

    def test_lengths(self):
        for length, answer in ((0, -22), (1, 0), (7, 0), (8, -22), (40, -22)):
            self.assertEqual(ask(BEGIN, poly(*[0] * length)), [0, answer], length)

    def test_numbers(self):
        for number, answer in ((1000, -33), (-1000, -33), (1001, -22), (-1001, -22), (32767, -22), (-32768, -22)):
            self.assertEqual(ask(BEGIN, poly(0, number), poly(number)), [0, answer, answer], number)

    def test_no_coins(self):
        self.assertEqual(ask(BEGIN, poly(0, 4, -4), poly(2), poly(-1), poly(1, -6, 12, -3, -4)), [0] + [-33] * 4)

    def test_just_10_tosses(self):
        self.assertEqual(ask(BEGIN, poly(1, -7, 18, -12), more(0)), [0, 0, -75])

    def test_a_last_number_of_0(self):
        self.assertEqual(rows_after(BEGIN, poly(1, 0), poly(0, 1, 0)), [[1, 1], [0, 1, 1]])
        self.assertEqual(ask(BEGIN, poly(1, 0), less(0), less(1)), [0, 0, 1, -33])

    def test_1_at_1(self):
        self.assertEqual(rows_after(BEGIN, poly(0, 2, -1), poly(1, -1, 1)), [[0, 2, 1], [1, 1, 1]])

    def test_too_many_coins_is_told_last(self):
        self.assertEqual(ask(*EIGHT, poly(0, 1), poly(), poly(0, 4, -4))[9:], [-28, -22, -33])


class Drop(unittest.TestCase):
    def test_those_behind_are_numbered_one_less(self):
        self.assertEqual(ask(BEGIN, coin(0), coin(0, 1), coin(1), drop(1), drop(2), drop(1), drop(0), drop(0)),
                         [0, 0, 1, 2, 2, -2, 1, 0, -2])
        self.assertEqual(rows_after(BEGIN, coin(0), coin(0, 1), coin(1), drop(1)), [[0], [1]])
        self.assertEqual(rows_after(BEGIN, coin(0), coin(0, 1), coin(1), drop(0)), [[0, 1], [1]])
        self.assertEqual(rows_after(BEGIN, coin(0), coin(0, 1), coin(1), drop(2)), [[0], [0, 1]])

    def test_no_such_coin(self):
        self.assertEqual(ask(BEGIN, drop(0), coin(1), drop(1), drop(HUGE), drop(0)), [0, -2, 0, -2, -2, 0])


class MoreAndLess(unittest.TestCase):
    def test_a_toss_more(self):
        self.assertEqual(rows_after(BEGIN, coin(0, 1), more(0), more(1), coin(1), more(3)),
                         [[0, 1], [0, 1, 1], [0, 1, 2, 1], [1], [1, 1]])

    def test_10_tosses_at_most(self):
        self.assertEqual(ask(BEGIN, coin(*TEN), coin(*TEN[:1] + [9] + [0] * 8), more(0), more(1), more(2)),
                         [0, 0, 1, -75, 2, -75])

    def test_a_toss_fewer(self):
        self.assertEqual(ask(BEGIN, coin(0, 1, 1), less(0), less(1)), [0, 0, 1, -33])
        self.assertEqual(rows_after(BEGIN, coin(0, 1, 1), less(0)), [[0, 1, 1], [0, 1]])

    def test_a_toss_fewer_that_is_none(self):
        for row in ([0], [1], [0, 1], [1, 0], [0, 3, 3, 0], [1, 0, 0, 1], [0, 0, 1]):
            self.assertEqual(ask(BEGIN, coin(*row), less(0), coin(1)), [0, 0, -33, 1], row)

    def test_a_coin_that_looks_at_none_of_its_tosses(self):
        self.assertEqual(ask(BEGIN, coin(1, 2, 1), less(0), less(1), less(2)), [0, 0, 1, 2, -33])
        self.assertEqual(rows_after(BEGIN, coin(0, 0, 0), less(0), less(1)), [[0, 0, 0], [0, 0], [0]])

    def test_refusals_in_their_order(self):
        self.assertEqual(ask(BEGIN, more(0), less(0), coin(1), more(1), less(1), more(HUGE), less(HUGE)),
                         [0, -2, -2, 0, -2, -2, -2, -2])
        full = [BEGIN, coin(*TEN), coin(1), coin(1, 1)] + [coin(1)] * 5
        self.assertEqual(ask(*full, more(8), more(0), more(1), less(8), less(1), less(2))[9:],
                         [-2, -75, -28, -2, -33, -28])


class Not(unittest.TestCase):
    def test_yes_where_it_says_no(self):
        self.assertEqual(rows_after(BEGIN, coin(0, 1), not_of(0), not_of(1), coin(*TEN), not_of(3)),
                         [[0, 1], [1, 0], [0, 1], TEN, [0] * 11])
        self.assertEqual(rows_after(BEGIN, coin(1), not_of(0), not_of(1)), [[1], [0], [1]])

    def test_refusals_in_their_order(self):
        self.assertEqual(ask(BEGIN, not_of(0), coin(1), not_of(1), not_of(HUGE)), [0, -2, 0, -2, -2])
        self.assertEqual(ask(*EIGHT, not_of(8), not_of(7), not_of(HUGE))[9:], [-2, -28, -2])


class AndOr(unittest.TestCase):
    def test_ordinary(self):
        told = [BEGIN, coin(0, 1), coin(1, 0)]
        self.assertEqual(rows_after(*told, and_of(0, 1), or_of(0, 1), and_of(0, 0), or_of(0, 0))[2:],
                         [[0, 1, 0], [1, 1, 1], [0, 0, 1], [0, 2, 1]])

    def test_with_coins_of_no_tosses(self):
        told = [BEGIN, coin(1), coin(0), coin(0, 1)]
        self.assertEqual(rows_after(*told, and_of(0, 2), and_of(2, 1), and_of(0, 1))[3:], [[0, 1], [0, 0], [0]])
        self.assertEqual(rows_after(*told, or_of(0, 2), or_of(2, 1), or_of(0, 1))[3:], [[1, 1], [0, 1], [1]])

    def test_10_tosses_at_most(self):
        told = [BEGIN, coin(*[0] * 6), coin(*[0] * 7), coin(*TEN), coin(1), coin(0, 1)]
        for call in (and_of, or_of):
            self.assertEqual(ask(*told, call(0, 0), call(0, 1), call(1, 0), call(2, 3), call(3, 2), call(2, 4),
                                 call(4, 2))[6:], [5, -75, -75, 6, 7, -75, -75])

    def test_refusals_in_their_order(self):
        full = [BEGIN, coin(*TEN), coin(0, 1)] + [coin(1)] * 6
        for call in (and_of, or_of):
            self.assertEqual(ask(BEGIN, call(0, 0), coin(1), call(0, 1), call(1, 0), call(HUGE, 0), call(0, HUGE)),
                             [0, -2, 0, -2, -2, -2, -2])
            self.assertEqual(ask(*full, call(0, 8), call(8, 0), call(0, 1), call(1, 1))[9:], [-2, -2, -75, -28])


class If(unittest.TestCase):
    def test_coins_of_unlike_tosses(self):
        told = [BEGIN, coin(0, 1), coin(1), coin(0, 1, 0)]
        # Heads: yes, whatever the two behind it; tails: one head of two, the first one.
        self.assertEqual(rows_after(*told, if_then(0, 1, 2))[3], [0, 1 + 1, 2, 1])
        # Heads: one head of two, the first one; tails: yes, whatever the two behind it.
        self.assertEqual(rows_after(*told, if_then(0, 2, 1))[3], [1, 2, 1 + 1, 0])

    def test_with_a_first_coin_of_no_tosses(self):
        told = [BEGIN, coin(1), coin(0), coin(0, 1), coin(1, 1, 0)]
        self.assertEqual(rows_after(*told, if_then(0, 2, 3), if_then(1, 2, 3), if_then(0, 1, 0))[4:],
                         [[0, 1, 1], [1, 1, 0], [0]])

    def test_10_tosses_at_most(self):
        told = [BEGIN, coin(*[0] * 6), coin(*[0] * 7), coin(*TEN), coin(1), coin(0, 1)]
        self.assertEqual(ask(*told, if_then(0, 0, 0), if_then(0, 0, 1), if_then(0, 1, 0), if_then(3, 2, 2),
                             if_then(4, 3, 2), if_then(4, 2, 3), if_then(2, 3, 3))[6:], [5, -75, -75, 6, -75, -75, 7])

    def test_refusals_in_their_order(self):
        full = [BEGIN, coin(*TEN), coin(0, 1)] + [coin(1)] * 6
        self.assertEqual(ask(*full, if_then(8, 0, 0), if_then(0, 8, 0), if_then(0, 0, 8), if_then(0, 0, HUGE),
                             if_then(1, 1, 0), if_then(1, 1, 1))[9:], [-2, -2, -2, -2, -75, -28])


class Of(unittest.TestCase):
    def test_ordinary(self):
        told = [BEGIN, coin(0, 0, 1), coin(0, 2, 0)]
        # Both of two pairs are unlike; the pair of two tosses that both are heads.
        self.assertEqual(rows_after(*told, of(0, 1), of(1, 0))[2:], [[0, 0, 4, 0, 0], [0, 0, 2, 4, 0]])

    def test_with_coins_of_no_tosses(self):
        told = [BEGIN, coin(1), coin(0), coin(0, 1, 1), coin(1, 0)]
        self.assertEqual(rows_after(*told, of(0, 2), of(1, 2), of(0, 1), of(1, 0))[4:], [[1], [0], [1], [0]])
        self.assertEqual(rows_after(*told, of(2, 0), of(2, 1), of(3, 0), of(3, 1))[4:], [[1], [0], [0], [1]])
        self.assertEqual(rows_after(*told, of(0, 0), of(1, 1))[4:], [[1], [0]])

    def test_10_tosses_at_most(self):
        told = [BEGIN, coin(0, 0, 0), coin(*[0] * 6), coin(*[0] * 7), coin(*TEN), coin(1)]
        self.assertEqual(ask(*told, of(0, 1), drop(5), of(1, 0), drop(5), of(0, 2), of(2, 0), of(3, 4), of(4, 3),
                             of(3, 3), of(3, 0))[6:], [5, 5, 5, 5, -75, -75, 5, 6, -75, -75])

    def test_refusals_in_their_order(self):
        full = [BEGIN, coin(*TEN), coin(0, 1)] + [coin(1)] * 6
        self.assertEqual(ask(*full, of(8, 0), of(0, 8), of(HUGE, HUGE), of(0, 0), of(0, 1), of(2, 2))[9:],
                         [-2, -2, -2, -75, -28, -28])


class Changes(unittest.TestCase):
    def test_a_refusal_changes_nothing(self):
        told = [BEGIN, coin(*TEN), coin(0, 1), coin(1)]
        refused = [coin(2), coin(), poly(), poly(2), poly(0, 1001), drop(3), more(0), more(3), less(1), less(3),
                   not_of(3), and_of(0, 1), and_of(0, 3), or_of(1, 0), or_of(3, 0), if_then(1, 0, 1),
                   if_then(0, 0, 3), of(0, 0), of(3, 3)]
        before = holder_after(*told)
        for call in refused:
            self.assertLess(ask(*told, call)[-1], 0)
            after = holder_after(*told, call)
            self.assertEqual((after.begun, after.rows, after.past), (before.begun, before.rows, before.past), call)

    def test_too_many_coins_changes_nothing(self):
        before = holder_after(*EIGHT)
        for call in (coin(1), poly(1), more(0), not_of(0), and_of(0, 0), or_of(0, 0), if_then(0, 0, 0), of(0, 0)):
            self.assertEqual(ask(*EIGHT, call)[-1], -28)
            after = holder_after(*EIGHT, call)
            self.assertEqual((after.rows, after.past), (before.rows, before.past))

    def test_not_begun_changes_nothing(self):
        holder = holder_after(*ALL_BUT_BEGIN)
        self.assertEqual((holder.begun, holder.rows, holder.past), (False, [], []))

    def test_how_it_was_ahead_of_each_change_is_kept(self):
        calls = [BEGIN, coin(0, 1, 1), poly(0, 1), drop(1), more(0), less(0), not_of(0), and_of(0, 1), or_of(0, 1),
                 if_then(0, 1, 0), of(2, 2)]
        holder = holder_after(*calls)
        self.assertEqual(holder.past, [rows_after(*calls[:end]) for end in range(1, len(calls))])

    def test_of_the_last_10_changes_alone(self):
        calls = [BEGIN, coin(0), coin(1), drop(0), coin(0, 1), more(1), drop(0), not_of(0), not_of(1), drop(1),
                 drop(0), coin(0, 0), coin(1, 1)]
        for many in range(1, len(calls) + 1):
            kept = [rows_after(*calls[:end]) for end in range(1, many)][-10:]
            self.assertEqual(holder_after(*calls[:many]).past, kept)
            self.assertEqual(len(kept), min(10, many - 1))


class Guarded(list):
    """A list that may be read alone."""

    def refuse(self, *told):
        raise AssertionError("the list that was handed in is changed")

    __setitem__ = __delitem__ = __iadd__ = __imul__ = refuse
    append = extend = insert = pop = remove = clear = sort = reverse = refuse


class Lists(unittest.TestCase):
    CHANGES = [[3, 0], BEGIN, coin(0, 1), coin(), poly(0, 3, -3), more(0), less(1), less(2), not_of(0), and_of(0, 1),
               or_of(0, 1), if_then(0, 1, 2), of(0, 1), drop(2), BEGIN, coin(1), drop(9)]
    LOOKS = [STATE, BEGIN, BACK, coin(0, 2, 0), row_call(0), coefs(0), more(0), least(1), same(0, 1), same(0, 2),
             chance_call(0, 1, 3), says(0, 1, 0), says(0, 1), can(0, 3, -3), can(), never(1, 2, 0, 4, -4),
             fair(1, 1, 0, 1), fair(1, 1, 0), STATE, BACK, BACK, STATE]
    CALLS = CHANGES + LOOKS

    def test_the_answers_in_their_order(self):
        self.assertEqual(answers([0, 1, 2, 0, 1, 4, 0, 3, 5]), [1, 0, 1, 0, 1, 1, 1, -2])
        self.assertEqual(ask(*self.CHANGES), [-11, 0, 0, -22, 1, 2, -33, 3, 4, 5, 6, 7, -28, 7, 0, 0, -2])

    def test_looks_in_their_order(self):
        self.assertEqual(tell(*self.LOOKS), [
            [-11], [0], [-6], [0], [3, 0, 2, 0], [3, 0, 2, -2], [1], [3, 0, 2, 0], [1], [-2], [0, 4, 9], [1], [-22],
            [3], [-22], [1], [0, 4], [-33], [2, 2], [1], [0], [0, 0]])

    def test_a_count_ahead_of_each_answer(self):
        self.assertEqual(answers([0, 1, 2, 0, 1, 11, 0, 12, 0, 13, 0, 1, 3, 15, 0, 19, 2, 1, 0, 21, 20, 20]),
                         [1, 0, 1, 0, 3, 2, 0, 1, 3, 2, 0, 1, 3, 0, 1, 3, 3, 2, 0, 1, 2, 1, 2, 2, 1, 1, 1, 0, 1, -6])

    def test_what_is_handed_in_is_as_it_was_and_nothing_is_kept(self):
        calls = [number for call in self.CALLS for number in call]
        copy = list(calls)
        first = answers(calls)
        self.assertEqual(calls, copy)
        first_copy = list(first)
        first.append(5)
        self.assertEqual(answers(calls), first_copy)
        self.assertEqual(answers([3, 0]), [1, -11])
        self.assertEqual(answers(calls), first_copy)

    def test_what_is_handed_in_is_not_changed_for_a_while_either(self):
        calls = [number for call in self.CALLS for number in call]
        self.assertEqual(answers(Guarded(calls)), answers(calls))

    def test_whole_numbers_in_a_list(self):
        given = answers([number for call in self.CALLS for number in call])
        self.assertIs(type(given), list)
        self.assertEqual({type(number) for number in given}, {int})

    def test_rows_are_gone_over_ahead_of_a_begin(self):
        self.assertEqual(split(answers([18, 1, 2, 3, 0, 0, 0, 19, 2, 0, 0, 16, 0, 1, 0, 1, 1, 0, 2, 1, 0, 17, 0, 0])),
                         [[-11], [-11], [-11], [-11], [-11], [-11], [0]])

    def test_256_calls(self):
        self.assertEqual(ask(BEGIN, *[coin(1)] * 255), [0] + list(range(8)) + [-28] * 247)
        self.assertEqual(tell(BEGIN, coin(*TEN), *[row_call(0)] * 254)[2:], [[11, *TEN]] * 254)

    def test_as_many_numbers_as_may_be_handed_in(self):
        calls = [BEGIN] + [fair(*[0] * 1000)] * 29 + [BACK] * 226
        self.assertLessEqual(sum(len(call) for call in calls), 30000)
        self.assertEqual(ask(*calls), [0] + [-33] * 29 + [-6] * 226)


if __name__ == "__main__":
    unittest.main()
