"""Long lists of calls in any order, answered here by whole tables, and compared."""

import random
import unittest
from fractions import Fraction
from math import comb

from madecoins.tosses import answers
from tables import POINTS, chance, holder_after, powers_of, row_of, split, table_of, value

# How many coins a call tells, and how many numbers in all ahead of its row.
COINS = {3: 1, 4: 1, 5: 1, 6: 1, 7: 2, 8: 2, 9: 3, 10: 2, 11: 1, 12: 1, 13: 1, 14: 2, 15: 1, 16: 1}
NUMBERS = {**COINS, 13: 3, 18: 2}
WITH_ROW = (1, 2, 16, 17, 18, 19)


class Slow:
    """The coins, by whole tables."""

    def __init__(self):
        self.rows = None
        self.past = []

    def answer(self, call):
        """What is answered to a call, as a list."""
        if call[0] == 0:
            self.rows, self.past = [], []
            return [0]
        if self.rows is None:
            return [-11]
        numbers = call[1:1 + NUMBERS.get(call[0], 0)]
        row = call[2 + len(numbers):]
        if any(i >= len(self.rows) for i in numbers[:COINS.get(call[0], 0)]):
            return [-2]
        if call[0] > 10:
            return self.look(call[0], numbers, row)
        before = list(self.rows)
        answer = self.change(call[0], numbers, row)
        if answer >= 0:
            self.past.append(before)
        return [answer]

    def change(self, call, numbers, row):
        if call in (1, 2):
            return self.coin(row) if call == 1 else self.poly(row)
        if call == 3:
            self.rows.pop(numbers[0])
            return len(self.rows)
        return self.made(call, [self.rows[i] for i in numbers])

    def add(self, row):
        if len(self.rows) == 8:
            return -28
        self.rows.append(row)
        return len(self.rows) - 1

    def coin(self, row):
        k = len(row) - 1
        if not 0 <= k <= 10 or any(row[j] > comb(k, j) for j in range(k + 1)):
            return -22
        return self.add(row)

    def poly(self, row):
        made = self.polynomials_coin(row)
        return made if isinstance(made, int) else self.add(made)

    def polynomials_coin(self, row):
        """The coin's row, or the refusal."""
        if not 1 <= len(row) <= 7 or any(abs(number) > 1000 for number in row):
            return -22
        for k in range(len(row) - 1, 11):
            made = [sum(row[i] * comb(k - i, j - i) for i in range(min(j + 1, len(row)))) for j in range(k + 1)]
            if all(0 <= made[j] <= comb(k, j) for j in range(k + 1)):
                return made
        return -33

    def made(self, call, told):
        k = [len(row) - 1 for row in told]
        says = [table_of(row) for row in told]
        if call == 5:
            return self.less(told[0])
        if call == 4:
            tosses, yes = k[0] + 1, lambda t: says[0][t[:-1]]
        elif call == 6:
            tosses, yes = k[0], lambda t: not says[0][t]
        elif call == 7:
            tosses, yes = k[0] + k[1], lambda t: says[0][t[:k[0]]] and says[1][t[k[0]:]]
        elif call == 8:
            tosses, yes = k[0] + k[1], lambda t: says[0][t[:k[0]]] or says[1][t[k[0]:]]
        elif call == 9:
            tosses = k[0] + max(k[1], k[2])

            def yes(t):
                then = 1 if says[0][t[:k[0]]] else 2
                return says[then][t[k[0]:k[0] + k[then]]]
        else:
            tosses = k[0] * k[1]

            def yes(t):
                return says[0][tuple(int(says[1][t[at * k[1]:(at + 1) * k[1]]]) for at in range(k[0]))]
        return -75 if tosses > 10 else self.add(row_of(tosses, yes))

    def less(self, row):
        shorter = self.shorter(row)
        return -33 if shorter is None else self.add(shorter)

    def shorter(self, row):
        k = len(row) - 1
        # The number at j is what is left at j, less what is already taken for one head fewer.
        made = [sum((-1) ** (j - i) * row[i] for i in range(j + 1)) for j in range(k)]
        if k == 0 or any(not 0 <= made[j] <= comb(k - 1, j) for j in range(k)):
            return None
        table = table_of(made)
        return made if row_of(k, lambda t: table[t[:-1]]) == row else None

    def look(self, call, numbers, row):
        told = [self.rows[i] for i in numbers[:COINS.get(call, 0)]]
        if call == 11:
            return [len(told[0]), *told[0]]
        if call == 12:
            return [len(told[0]), *powers_of(told[0])]
        if call == 13:
            return self.chance(told[0], numbers[1], numbers[2])
        if call == 14:
            return [int(all(chance(told[0], at) == chance(told[1], at) for at in POINTS))]
        if call == 15:
            return self.least(told[0])
        if call == 16:
            return [int(table_of(told[0]).get(tuple(row), -22))]
        if call == 17:
            made = self.polynomials_coin(row)
            return [made if isinstance(made, int) else len(made) - 1]
        if call == 18:
            return self.never(numbers[0], numbers[1], row)
        if call == 19:
            return self.fair(row)
        return self.back() if call == 20 else [len(self.rows), min(len(self.past), 10)]

    def chance(self, row, a, b):
        if not 1 <= b <= 20 or a > b:
            return [-22]
        power = b ** (len(row) - 1)
        return [0, int(chance(row, Fraction(a, b)) * power), power]

    def least(self, row):
        while self.shorter(row) is not None:
            row = self.shorter(row)
        return [len(row), *row]

    def never(self, a, b, row):
        if not 2 <= b <= 20 or not 0 < a < b or self.polynomials_coin(row) == -22:
            return [-22]
        told = value(row, Fraction(a, b))
        rest = any(row[1:])
        return [int(told < 0 or told > 1 or (told == 0 and (row[0] != 0 or rest))
                    or (told == 1 and (row[0] != 1 or rest)))]

    def fair(self, row):
        if any(toss > 1 for toss in row):
            return [-22]
        for used in range(2, len(row) + 1, 2):
            if row[used - 2] + row[used - 1] == 1:
                return [row[used - 2], used]
        return [-33]

    def back(self):
        if not self.past:
            return [-6]
        self.past = self.past[-10:]
        self.rows = self.past.pop()
        return [len(self.past)]


def some_row(source):
    k = source.choice((0, 0, 1, 1, 1, 2, 2, 3, 4, 5, 10))
    row = [source.randint(0, comb(k, j)) for j in range(k + 1)]
    if source.random() < 0.1:
        row[source.randrange(len(row))] += 1
    return row


def some_polynomial(source):
    return [source.choice((0, 1)), *[source.randint(-3, 3) for _ in range(source.randint(0, 3))]]


def some_tosses(source, most):
    tossed = [source.choice((0, 1)) for _ in range(source.randint(0, most))]
    return tossed + [2] if source.random() < 0.1 else tossed


def some_numbers(source, call):
    numbers = [source.choice((0, 0, 1, 2, 3, 4, 7)) for _ in range(COINS.get(call, 0))]
    if call in (13, 18):
        b = source.choice((0, 1, 2, 2, 2, 3, 4, 7, 20, 21))
        numbers += [source.randint(0, b + 1), b]
    return numbers


def some_call(source):
    call = source.choice((1, 1, 1, 2, 2, 3, 3, 4, 5, 5, 6, 7, 8, 9, 10, 3, 3, *range(11, 22), 16, 16, 18, 20, 20))
    if call == 1:
        row = some_row(source)
    elif call in (2, 17, 18):
        row = some_polynomial(source) if source.random() < 0.9 else [0] * source.choice((0, 8))
    else:
        row = some_tosses(source, 3 if call == 16 else 9)
    return [call, *some_numbers(source, call), *([len(row), *row] if call in WITH_ROW else [])]


# What each call is to have answered somewhere, other than 0 and above.
REFUSALS = {1: (-22, -28), 2: (-22, -33, -28), 3: (-2,), 4: (-2, -75, -28), 5: (-2, -33, -28), 6: (-2, -28),
            7: (-2, -75, -28), 8: (-2, -75, -28), 9: (-2, -75, -28), 10: (-2, -75, -28), 11: (-2,), 12: (-2,),
            13: (-2, -22), 14: (-2,), 15: (-2,), 16: (-2, -22), 17: (-22, -33), 18: (-22,), 19: (-22, -33), 20: (-6,),
            21: ()}


class AnyOrder(unittest.TestCase):
    def test_like_the_tables(self):
        seen = {}
        for seed in range(60):
            source = random.Random(seed)
            calls = [[0]] + [some_call(source) for _ in range(255)]
            if seed % 5 == 0:
                calls = [some_call(source)] + calls[:180] + [[0]] + [some_call(source) for _ in range(74)]
            self.assertEqual(len(calls), 256)
            slow = Slow()
            expected = [slow.answer(call) for call in calls]
            self.assertEqual(split(answers([number for call in calls for number in call])), expected, seed)
            holder = holder_after(*calls)
            self.assertEqual((holder.rows, holder.past), (slow.rows, slow.past[-10:]), seed)
            for call, answer in zip(calls, expected):
                seen[(call[0], min(answer[0], 0))] = True
                seen[(call[0], "answer", answer[0])] = True
        # The lists are of use only as long as they come upon what is to be told apart.
        for call in range(1, 22):
            for first in (0, *REFUSALS[call]):
                self.assertIn((call, first), seen)
        for call in (14, 16, 18, 19):
            self.assertTrue(((call, "answer", 0) in seen) and ((call, "answer", 1) in seen), call)


if __name__ == "__main__":
    unittest.main()
