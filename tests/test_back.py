"""back and state, and that refusals and looking change nothing."""

import unittest
from math import comb

from tables import (BACK, BEGIN, STATE, and_of, ask, can, chance_call, coefs, coin, drop, fair, holder_after, if_then,
                    least, less, more, never, not_of, of, or_of, poly, row_call, same, says, tell)

TEN = [comb(10, heads) for heads in range(11)]
HUGE = 4294967295

# Every kind of change, one of each, more than can be taken back.
CHANGES = [coin(0, 1, 1), poly(0, 1), drop(1), more(0), less(0), not_of(0), and_of(0, 2), or_of(0, 2), if_then(0, 2, 0),
           of(2, 2), drop(0), drop(5), coin(1)]

LOOKS = [row_call(0), coefs(0), chance_call(0, 1, 2), same(0, 0), least(0), says(0, 1, 0), can(0, 1),
         never(1, 2, 0, 1), fair(1, 0), STATE]

REFUSED = [coin(2), coin(), poly(), poly(2), drop(8), more(8), less(8), not_of(8), and_of(0, 8), or_of(8, 0),
           if_then(0, 0, 8), of(8, 8), row_call(8), coefs(8), chance_call(8, 1, 2), chance_call(0, 3, 2), same(0, 8),
           least(8), says(8), says(0, 1, 2), can(), can(2), never(0, 2, 1), never(1, 2), fair(2), fair()]


def all_seen(calls):
    """All that can be seen of the coins and changes after these calls."""
    many = tell(*calls, STATE)[-1][0]
    return tell(*calls, STATE, *[row_call(i) for i in range(many)])[len(calls):]


class State(unittest.TestCase):
    def test_how_many_coins_then_how_many_changes(self):
        self.assertEqual(tell(BEGIN, STATE, coin(1), STATE, coin(0, 1), STATE, drop(0), STATE, drop(0), STATE)[1::2],
                         [[0, 0], [1, 1], [2, 2], [1, 3], [0, 4]])

    def test_10_changes_at_most(self):
        calls = [BEGIN]
        for many in range(20):
            self.assertEqual(tell(*calls, STATE)[-1], [many % 2, min(many, 10)])
            calls.append(drop(0) if many % 2 else coin(1))

    def test_every_kind_of_change_counts(self):
        self.assertTrue(all(answer >= 0 for answer in ask(BEGIN, *CHANGES)))
        for many in range(len(CHANGES) + 1):
            self.assertEqual(tell(BEGIN, *CHANGES[:many], STATE)[-1][1], min(many, 10))

    def test_8_coins(self):
        self.assertEqual(tell(BEGIN, *[coin(1)] * 9, STATE)[-1], [8, 8])


class Back(unittest.TestCase):
    def test_no_change(self):
        self.assertEqual(ask(BEGIN, BACK, BACK), [0, -6, -6])
        self.assertEqual(tell(BEGIN, BACK, STATE)[-1], [0, 0])

    def test_how_many_can_still_be(self):
        for many in range(1, 14):
            calls = [BEGIN] + [drop(0) if change % 2 else coin(1) for change in range(many)]
            can_be = min(many, 10)
            self.assertEqual(ask(*calls, *[BACK] * (can_be + 2))[len(calls):],
                             list(range(can_be - 1, -1, -1)) + [-6, -6])

    def test_all_is_as_it_was_ahead_of_each_change(self):
        for many in range(1, len(CHANGES) + 1):
            calls = [BEGIN, *CHANGES[:many]]
            can_be = min(many, 10)
            for taken in range(1, can_be + 1):
                seen = all_seen(calls + [BACK] * taken)
                as_it_was = all_seen(calls[:len(calls) - taken])
                self.assertEqual(seen[0], [as_it_was[0][0], can_be - taken])
                self.assertEqual(seen[1:], as_it_was[1:])

    def test_after_an_11th_change_the_first_stays(self):
        calls = [BEGIN, coin(0, 1), coin(1)] + [not_of(0), drop(2)] * 4 + [drop(1)]
        self.assertEqual(tell(*calls, STATE)[-1], [1, 10])
        self.assertEqual(all_seen(calls + [BACK] * 10), [[1, 0], [2, 0, 1]])
        self.assertEqual(ask(*calls, *[BACK] * 11)[-1], -6)

    def test_over_drop(self):
        told = [BEGIN, coin(0), coin(0, 1), coin(1)]
        for i in range(3):
            self.assertEqual(all_seen(told + [drop(i), BACK]), all_seen(told))

    def test_over_a_refusal_and_a_look(self):
        told = [BEGIN, coin(0, 2, 0), coin(1)]
        for between in REFUSED + LOOKS:
            self.assertEqual(all_seen(told + [between, BACK]), [[1, 1], [3, 0, 2, 0]], between)
            self.assertEqual(tell(*told, between, BACK)[-1], [1])

    def test_taking_back_is_no_change_itself(self):
        told = [BEGIN, coin(0, 1), coin(1), coin(0)]
        self.assertEqual(all_seen(told + [BACK, BACK]), all_seen(told[:2]))
        self.assertEqual(tell(*told, BACK, STATE, BACK, STATE, BACK, STATE, BACK, STATE)[5::2],
                         [[2, 2], [1, 1], [0, 0], [0, 0]])

    def test_other_changes_behind_what_is_taken_back(self):
        calls = [BEGIN, coin(0, 1), coin(1), BACK, coin(0), BACK, coin(0, 0)]
        self.assertEqual(all_seen(calls), [[2, 2], [2, 0, 1], [2, 0, 0]])
        self.assertEqual(all_seen(calls + [BACK]), [[1, 1], [2, 0, 1]])

    def test_10_again_behind_what_is_taken_back(self):
        calls = [BEGIN] + [coin(1), drop(0)] * 6 + [BACK] * 4 + [coin(1), drop(0)] * 3
        self.assertEqual(tell(*calls, STATE)[-1], [0, 10])
        self.assertEqual(ask(*calls, *[BACK] * 11)[-11:], [9, 8, 7, 6, 5, 4, 3, 2, 1, 0, -6])

    def test_behind_a_begin(self):
        self.assertEqual(ask(BEGIN, coin(1), coin(1), BEGIN, BACK), [0, 0, 1, 0, -6])
        self.assertEqual(tell(BEGIN, coin(1), BEGIN, STATE, coin(0, 1), BACK, BACK, STATE)[3:],
                         [[0, 0], [0], [0], [-6], [0, 0]])

    def test_8_coins_and_one_again(self):
        self.assertEqual(ask(BEGIN, *[coin(1)] * 9, BACK, coin(1), coin(1))[9:], [-28, 7, 7, -28])

    def test_a_coin_that_is_taken_back_is_no_such_coin(self):
        self.assertEqual(ask(BEGIN, coin(1), BACK, row_call(0), not_of(0), drop(0)), [0, 0, 0, -2, -2, -2])


class NothingChanges(unittest.TestCase):
    TOLD = [BEGIN, coin(*TEN), coin(0, 1), coin(0, 1, 1), coin(1), drop(0)]

    def test_looking(self):
        before = holder_after(*self.TOLD)
        seen = all_seen(self.TOLD)
        for call in (row_call(1), coefs(1), chance_call(1, 1, 2), same(0, 1), least(1), says(1, 1, 0), can(0, 1),
                     never(1, 2, 0, 1), fair(1, 0), STATE):
            self.assertGreaterEqual(tell(*self.TOLD, call)[-1][0], 0)
            after = holder_after(*self.TOLD, call)
            self.assertEqual((after.rows, after.past), (before.rows, before.past))
            self.assertEqual(all_seen(self.TOLD + [call]), seen)

    def test_what_is_refused(self):
        seen = all_seen(self.TOLD)
        for call in REFUSED:
            self.assertLess(tell(*self.TOLD, call)[-1][0], 0, call)
            self.assertEqual(len(tell(*self.TOLD, call)[-1]), 1)
            self.assertEqual(all_seen(self.TOLD + [call]), seen)

    def test_taking_back_where_nothing_can_be(self):
        told = self.TOLD + [BACK] * 5
        self.assertEqual(all_seen(told + [BACK]), all_seen(told))

    def test_what_a_look_answers_is_the_same_again(self):
        for call in LOOKS:
            first, second = tell(BEGIN, coin(0, 2, 0), call, call)[2:]
            self.assertEqual(first, second)


class NotBegun(unittest.TestCase):
    def test_looks_and_back_whatever_is_handed_in(self):
        calls = LOOKS + [BACK, row_call(HUGE), chance_call(HUGE, HUGE, 0), says(HUGE, *[65535] * 40), can(),
                         can(*[-32768] * 40), never(0, 0), never(HUGE, HUGE, *[32767] * 40), fair(),
                         fair(*[65535] * 1000)]
        self.assertEqual(ask(*calls), [-11] * len(calls))
        self.assertEqual(tell(*calls, BEGIN, STATE, BACK)[len(calls):], [[0], [0, 0], [-6]])


if __name__ == "__main__":
    unittest.main()
