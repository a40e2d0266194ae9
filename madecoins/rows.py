"""Coins as rows: at place j, to how many of the rows of tosses with j heads the coin says yes.

No function here changes a row that it is given.
"""

MOST_TOSSES = 10


def choose(n, k):
    """In how many ways k of n can be chosen; k is not below 0."""
    ways = 1
    for taken in range(k):
        ways = ways * (n - taken) // (taken + 1)
    return ways


def power(base, times):
    made = 1
    for again in range(times):
        made = made * base
    return made


def weighed(numbers, one, other):
    """Of each number, at place j of the last place n: times one to the power of j, other to that of n - j."""
    last = len(numbers) - 1
    total = 0
    for place in range(len(numbers)):
        total = total + numbers[place] * power(one, place) * power(other, last - place)
    return total


def tosses_of(row):
    return len(row) - 1


def fits(row):
    """Whether it says yes to no more rows of tosses than there are, whatever the heads."""
    tosses = tosses_of(row)
    for heads in range(len(row)):
        if row[heads] < 0 or row[heads] > choose(tosses, heads):
            return False
    return True


def is_coin(row):
    tosses = tosses_of(row)
    return tosses >= 0 and tosses <= MOST_TOSSES and fits(row)


def toss_more(row):
    """The toss behind is a tail, and all the heads are ahead of it, or a head, and all but one are."""
    longer = [row[0]]
    for heads in range(1, len(row)):
        longer.append(row[heads] + row[heads - 1])
    longer.append(row[-1])
    return longer


def toss_fewer(row):
    """The one coin that becomes this one by a toss more, or None if there is none."""
    if tosses_of(row) == 0:
        return None
    shorter = []
    before = 0
    for heads in range(tosses_of(row)):
        before = row[heads] - before
        shorter.append(before)
    # A toss more repeats the last number, so a coin that doesn't must have looked at its last toss.
    if before != row[-1] or not fits(shorter):
        return None
    return shorter


def with_fewest_tosses(row):
    left = list(row)
    shorter = toss_fewer(left)
    while shorter is not None:
        left = shorter
        shorter = toss_fewer(left)
    return left


def chance_at(row, a, b):
    """Its chance if a toss is heads with chance a by b, times b to the power of its tosses."""
    return weighed(row, a, b - a)


def opposite(row):
    tosses = tosses_of(row)
    return [choose(tosses, heads) - row[heads] for heads in range(len(row))]


def both(first, second):
    """Yes of the first one's tosses and yes of the second one's behind them: their heads add up."""
    made = [0] * (len(first) + tosses_of(second))
    for i in range(len(first)):
        for j in range(len(second)):
            made[i + j] = made[i + j] + first[i] * second[j]
    return made


def either(first, second):
    return opposite(both(opposite(first), opposite(second)))


def stretched(row, tosses):
    """The coin with tosses more, up to so many."""
    longer = list(row)
    while tosses_of(longer) < tosses:
        longer = toss_more(longer)
    return longer


def are_same(first, second):
    return stretched(first, MOST_TOSSES) == stretched(second, MOST_TOSSES)


def added_up(first, second):
    """Two tables of as many tosses that never say yes to the same row of tosses, as one."""
    return [first[heads] + second[heads] for heads in range(len(first))]


def if_yes(first, second, third):
    tosses = max(tosses_of(second), tosses_of(third))
    where_yes = both(first, stretched(second, tosses))
    where_no = both(opposite(first), stretched(third, tosses))
    return added_up(where_yes, where_no)


def all_of(row, times):
    """Yes if each of so many coins like this one says yes."""
    made = [1]
    for again in range(times):
        made = both(made, row)
    return made


def tossed_by(first, second):
    """The first coin, each of its tosses made by the second one."""
    made = [0] * (tosses_of(first) * tosses_of(second) + 1)
    for heads in range(len(first)):
        tails = tosses_of(first) - heads
        one = both(all_of(second, heads), all_of(opposite(second), tails))
        made = added_up(made, [first[heads] * number for number in one])
    return made
