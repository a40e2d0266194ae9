"""Long lists of calls in any order, answered here by whole tables, and compared."""

import random
import unittest
from math import comb

from madecoins.tosses import answers
from tables import holder_after, row_of, split, table_of


class Slow:
    """The coins, by whole tables."""

    def __init__(self):
        self.rows = None

    def answer(self, call):
        if call[0] == 0:
            self.rows = []
            return 0
        if self.rows is None:
            return -11
        if call[0] in (1, 2):
            row = call[2:]
            return self.coin(row) if call[0] == 1 else self.poly(row)
        if any(i >= len(self.rows) for i in call[1:]):
            return -2
        if call[0] == 3:
            self.rows.pop(call[1])
            return len(self.rows)
        return self.made(call[0], [self.rows[i] for i in call[1:]])

    def add(self, row):
        if len(self.rows) == 8:
            return -28
        self.rows.append(row)
        return len(self.rows) - 1

    def coin(self, row):
        k = len(row) - 1
        if not 0 <= k <= 10 or any(row[j] > comb(k, j) for j in range(k + 1)):
            return -22
        return self.add(row)

    def poly(self, row):
        if not 1 <= len(row) <= 7 or any(abs(number) > 1000 for number in row):
            return -22
        for k in range(len(row) - 1, 11):
            made = [sum(row[i] * comb(k - i, j - i) for i in range(min(j + 1, len(row)))) for j in range(k + 1)]
            if all(0 <= made[j] <= comb(k, j) for j in range(k + 1)):
                return self.add(made)
        return -33

    def made(self, call, told):
        k = [len(row) - 1 for row in told]
        says = [table_of(row) for row in told]
        if call == 5:
            return self.less(told[0])
        if call == 4:
            tosses, yes = k[0] + 1, lambda t: says[0][t[:-1]]
        elif call == 6:
            tosses, yes = k[0], lambda t: not says[0][t]
        elif call == 7:
            tosses, yes = k[0] + k[1], lambda t: says[0][t[:k[0]]] and says[1][t[k[0]:]]
        elif call == 8:
            tosses, yes = k[0] + k[1], lambda t: says[0][t[:k[0]]] or says[1][t[k[0]:]]
        elif call == 9:
            tosses = k[0] + max(k[1], k[2])

            def yes(t):
                then = 1 if says[0][t[:k[0]]] else 2
                return says[then][t[k[0]:k[0] + k[then]]]
        else:
            tosses = k[0] * k[1]

            def yes(t):
                return says[0][tuple(int(says[1][t[at * k[1]:(at + 1) * k[1]]]) for at in range(k[0]))]
        return -75 if tosses > 10 else self.add(row_of(tosses, yes))

    def less(self, row):
        k = len(row) - 1
        # The number at j is what is left at j, less what is already taken for one head fewer.
        shorter = [sum((-1) ** (j - i) * row[i] for i in range(j + 1)) for j in range(k)]
        if k == 0 or any(not 0 <= shorter[j] <= comb(k - 1, j) for j in range(k)):
            return -33
        table = table_of(shorter)
        if row_of(k, lambda t: table[t[:-1]]) != row:
            return -33
        return self.add(shorter)


def some_row(source):
    k = source.choice((0, 0, 1, 1, 1, 2, 2, 3, 4, 5, 10))
    row = [source.randint(0, comb(k, j)) for j in range(k + 1)]
    if source.random() < 0.1:
        row[source.randrange(len(row))] += 1
    return row


def some_call(source):
    call = source.choice((1, 1, 1, 2, 2, 3, 3, 4, 5, 5, 6, 7, 8, 9, 10, 3, 3))
    if call == 1:
        row = some_row(source)
        return [1, len(row), *row]
    if call == 2:
        row = [source.choice((0, 1)), *[source.randint(-3, 3) for _ in range(source.randint(0, 3))]]
        return [2, len(row), *row]
    return [call, *[source.choice((0, 0, 1, 2, 3, 4, 7)) for _ in range({9: 3, 7: 2, 8: 2, 10: 2}.get(call, 1))]]


class AnyOrder(unittest.TestCase):
    def test_like_the_tables(self):
        seen = {}
        for seed in range(60):
            source = random.Random(seed)
            calls = [[0]] + [some_call(source) for _ in range(100)]
            if seed % 5 == 0:
                calls = [some_call(source)] + calls + [[0]] + [some_call(source) for _ in range(50)]
            slow = Slow()
            expected = [[slow.answer(call)] for call in calls]
            self.assertEqual(split(answers([number for call in calls for number in call])), expected, seed)
            self.assertEqual(holder_after(*calls).rows, slow.rows, seed)
            for call, answer in zip(calls, expected):
                seen[(call[0], min(answer[0], 0))] = True
        # The lists are of use only as long as they come upon what is to be told apart.
        for call in range(1, 11):
            self.assertIn((call, 0), seen)
            for refusal in {1: (-22, -28), 2: (-33, -28), 3: (-2,), 4: (-2, -75, -28), 5: (-2, -33, -28),
                            6: (-2, -28)}.get(call, (-2, -75, -28)):
                self.assertIn((call, refusal), seen)


if __name__ == "__main__":
    unittest.main()
