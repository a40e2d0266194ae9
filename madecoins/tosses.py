"""The calls, handed in as one list of whole numbers, and their answers."""

from madecoins.draws import are_tosses, first_unlike_pair, says_yes
from madecoins.holder import Holder
from madecoins.polynomials import by_powers, can_never_be, coin_with_fewest_tosses, is_polynomial
from madecoins.refusals import NO_CHANGE, NO_SUCH_COIN, NOT_AS_TOLD, NOT_BEGUN, THERE_IS_NONE, TOO_MANY_TOSSES
from madecoins.rows import MOST_TOSSES, are_same, both, chance_at, either, if_yes, is_coin, opposite, power
from madecoins.rows import toss_fewer, toss_more, tossed_by, tosses_of, with_fewest_tosses

BEGIN = 0
LARGEST_B = 20

# By a call's number: how many coins it tells, how many other whole numbers, how many rows.
SHAPES = (
    (0, 0, 0),  # begin
    (0, 0, 1),  # coin
    (0, 0, 1),  # poly
    (1, 0, 0),  # drop
    (1, 0, 0),  # more
    (1, 0, 0),  # less
    (1, 0, 0),  # not_of
    (2, 0, 0),  # and_of
    (2, 0, 0),  # or_of
    (3, 0, 0),  # if_then
    (2, 0, 0),  # of
    (1, 0, 0),  # row
    (1, 0, 0),  # coefs
    (1, 2, 0),  # chance
    (2, 0, 0),  # same
    (1, 0, 0),  # least
    (1, 0, 1),  # says
    (0, 0, 1),  # can
    (0, 2, 1),  # never
    (0, 0, 1),  # fair
    (0, 0, 0),  # back
    (0, 0, 0),  # state
)


# Each call's own function is given the holder, the call's whole numbers and its row (none: []).
# The coins that the numbers tell are there: answer_to has asked.


def begin(holder, numbers, row):
    holder.begin()
    return [0]


def coin(holder, numbers, row):
    if not is_coin(row):
        return [NOT_AS_TOLD]
    return [holder.add(row)]


def poly(holder, numbers, row):
    if not is_polynomial(row):
        return [NOT_AS_TOLD]
    made = coin_with_fewest_tosses(row)
    if made is None:
        return [THERE_IS_NONE]
    return [holder.add(made)]


def drop(holder, numbers, row):
    return [holder.drop(numbers[0])]


def more(holder, numbers, row):
    told = holder.rows[numbers[0]]
    if tosses_of(told) == MOST_TOSSES:
        return [TOO_MANY_TOSSES]
    return [holder.add(toss_more(told))]


def less(holder, numbers, row):
    made = toss_fewer(holder.rows[numbers[0]])
    if made is None:
        return [THERE_IS_NONE]
    return [holder.add(made)]


def not_of(holder, numbers, row):
    return [holder.add(opposite(holder.rows[numbers[0]]))]


def and_of(holder, numbers, row):
    first = holder.rows[numbers[0]]
    second = holder.rows[numbers[1]]
    if tosses_of(first) + tosses_of(second) > MOST_TOSSES:
        return [TOO_MANY_TOSSES]
    return [holder.add(both(first, second))]


def or_of(holder, numbers, row):
    first = holder.rows[numbers[0]]
    second = holder.rows[numbers[1]]
    if tosses_of(first) + tosses_of(second) > MOST_TOSSES:
        return [TOO_MANY_TOSSES]
    return [holder.add(either(first, second))]


def if_then(holder, numbers, row):
    first = holder.rows[numbers[0]]
    second = holder.rows[numbers[1]]
    third = holder.rows[numbers[2]]
    if tosses_of(first) + max(tosses_of(second), tosses_of(third)) > MOST_TOSSES:
        return [TOO_MANY_TOSSES]
    return [holder.add(if_yes(first, second, third))]


def of(holder, numbers, row):
    first = holder.rows[numbers[0]]
    second = holder.rows[numbers[1]]
    if tosses_of(first) * tosses_of(second) > MOST_TOSSES:
        return [TOO_MANY_TOSSES]
    return [holder.add(tossed_by(first, second))]


def with_count(numbers):
    return [len(numbers)] + numbers


def coin_row(holder, numbers, row):
    return with_count(holder.rows[numbers[0]])


def coefs(holder, numbers, row):
    return with_count(by_powers(holder.rows[numbers[0]]))


def chance(holder, numbers, row):
    told = holder.rows[numbers[0]]
    a = numbers[1]
    b = numbers[2]
    if b < 1 or b > LARGEST_B or a > b:
        return [NOT_AS_TOLD]
    return [0, chance_at(told, a, b), power(b, tosses_of(told))]


def same(holder, numbers, row):
    return [1 if are_same(holder.rows[numbers[0]], holder.rows[numbers[1]]) else 0]


def least(holder, numbers, row):
    return with_count(with_fewest_tosses(holder.rows[numbers[0]]))


def says(holder, numbers, row):
    told = holder.rows[numbers[0]]
    if len(row) != tosses_of(told) or not are_tosses(row):
        return [NOT_AS_TOLD]
    return [1 if says_yes(told, row) else 0]


def can(holder, numbers, row):
    if not is_polynomial(row):
        return [NOT_AS_TOLD]
    made = coin_with_fewest_tosses(row)
    if made is None:
        return [THERE_IS_NONE]
    return [tosses_of(made)]


def never(holder, numbers, row):
    a = numbers[0]
    b = numbers[1]
    if b < 2 or b > LARGEST_B or a < 1 or a >= b or not is_polynomial(row):
        return [NOT_AS_TOLD]
    return [1 if can_never_be(row, a, b) else 0]


def fair(holder, numbers, row):
    if not are_tosses(row):
        return [NOT_AS_TOLD]
    at = first_unlike_pair(row)
    if at is None:
        return [THERE_IS_NONE]
    return [row[at], at + 2]


def back(holder, numbers, row):
    if holder.changes() == 0:
        return [NO_CHANGE]
    return [holder.back()]


def state(holder, numbers, row):
    return [len(holder.rows), holder.changes()]


# By a call's number.
CALLS = (
    begin, coin, poly, drop, more, less, not_of, and_of, or_of, if_then, of,
    coin_row, coefs, chance, same, least, says, can, never, fair, back, state,
)


def answer_to(holder, call, numbers, row):
    if call != BEGIN and not holder.begun:
        return [NOT_BEGUN]
    for i in numbers[:SHAPES[call][0]]:
        if not holder.has(i):
            return [NO_SUCH_COIN]
    return CALLS[call](holder, numbers, row)


def read_call(calls, at):
    """The call that stands at this place: its number, its whole numbers, its row, where the next begins."""
    shape = SHAPES[calls[at]]
    end = at + 1 + shape[0] + shape[1]
    numbers = calls[at + 1:end]
    row = []
    if shape[2] == 1:
        length = calls[end]
        row = calls[end + 1:end + 1 + length]
        end = end + 1 + length
    return (calls[at], numbers, row, end)


def answers(calls):
    holder = Holder()
    given = []
    at = 0
    while at < len(calls):
        told = read_call(calls, at)
        answer = answer_to(holder, told[0], told[1], told[2])
        given.append(len(answer))
        given.extend(answer)
        at = told[3]
    return given
