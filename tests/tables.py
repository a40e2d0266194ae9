"""What the tests share: calls as lists, and coins as whole tables, gone through row of tosses by row of tosses."""

from fractions import Fraction
from itertools import product
from math import comb

from madecoins.holder import Holder
from madecoins.tosses import answer_to, answers, read_call

BEGIN = [0]


def coin(*row):
    return [1, len(row), *row]


def poly(*row):
    return [2, len(row), *row]


def drop(i):
    return [3, i]


def more(i):
    return [4, i]


def less(i):
    return [5, i]


def not_of(i):
    return [6, i]


def and_of(i, j):
    return [7, i, j]


def or_of(i, j):
    return [8, i, j]


def if_then(i, j, k):
    return [9, i, j, k]


def of(i, j):
    return [10, i, j]


def row_call(i):
    return [11, i]


def coefs(i):
    return [12, i]


def chance_call(i, a, b):
    return [13, i, a, b]


def same(i, j):
    return [14, i, j]


def least(i):
    return [15, i]


def says(i, *row):
    return [16, i, len(row), *row]


def can(*row):
    return [17, len(row), *row]


def never(a, b, *row):
    return [18, a, b, len(row), *row]


def fair(*row):
    return [19, len(row), *row]


BACK = [20]
STATE = [21]


def split(given):
    """The answers of a list that answers() gave back, one list a call."""
    parts = []
    at = 0
    while at < len(given):
        parts.append(given[at + 1:at + 1 + given[at]])
        at += 1 + given[at]
    return parts


def tell(*calls):
    """What is answered to these calls, one list a call."""
    parts = split(answers([number for call in calls for number in call]))
    assert len(parts) == len(calls), parts
    return parts


def ask(*calls):
    """The first numbers answered to these calls; each of them answers one number alone."""
    parts = tell(*calls)
    assert all(len(part) == 1 for part in parts), parts
    return [part[0] for part in parts]


def holder_after(*calls):
    """What is kept after these calls."""
    holder = Holder()
    for call in calls:
        number, numbers, row, _ = read_call(call, 0)
        answer_to(holder, number, numbers, row)
    return holder


def rows_after(*calls):
    return holder_after(*calls).rows


def coins_of(tosses):
    """The rows of all coins of so many tosses."""
    return [list(row) for row in product(*[range(comb(tosses, heads) + 1) for heads in range(tosses + 1)])]


def coins_up_to(tosses):
    return [row for k in range(tosses + 1) for row in coins_of(k)]


def table_of(row):
    """Yes or no to each row of tosses, a head ahead of a tail."""
    said = [0] * len(row)
    table = {}
    for tosses in product((1, 0), repeat=len(row) - 1):
        heads = sum(tosses)
        table[tosses] = said[heads] < row[heads]
        said[heads] += 1
    return table


def row_of(tosses, says):
    """The row of the coin of so many tosses that says what the function says."""
    row = [0] * (tosses + 1)
    for tossed in product((1, 0), repeat=tosses):
        if says(tossed):
            row[sum(tossed)] += 1
    return row


def chance(row, at):
    tosses = len(row) - 1
    return sum((row[j] * at ** j * (1 - at) ** (tosses - j) for j in range(tosses + 1)), Fraction(0))


def value(numbers, at):
    return sum((numbers[i] * at ** i for i in range(len(numbers))), Fraction(0))


# More points than a polynomial of 10 tosses has powers: where two agree at all of them they are the same.
POINTS = [Fraction(a, 12) for a in range(13)]


def powers_of(row):
    """A coin's chance by powers, multiplied out."""
    tosses = len(row) - 1
    numbers = [0] * (tosses + 1)
    for j in range(tosses + 1):
        for i in range(tosses - j + 1):
            numbers[j + i] += row[j] * comb(tosses - j, i) * (-1) ** i
    return numbers
