"""Polynomials, by powers, and the rows that they are by a coin's tosses."""

from madecoins.rows import MOST_TOSSES, choose, fits, power, tosses_of, weighed

MOST_NUMBERS = 7
LARGEST = 1000


def is_polynomial(numbers):
    if len(numbers) < 1 or len(numbers) > MOST_NUMBERS:
        return False
    for number in numbers:
        if number < -LARGEST or number > LARGEST:
            return False
    return True


def by_heads(numbers, tosses, heads):
    total = 0
    for place in range(min(len(numbers), heads + 1)):
        total = total + numbers[place] * choose(tosses - place, heads - place)
    return total


def by_tosses(numbers, tosses):
    """The polynomial by so many tosses, which are no fewer than its numbers, less one."""
    return [by_heads(numbers, tosses, heads) for heads in range(tosses + 1)]


def coin_with_fewest_tosses(numbers):
    """The row of the polynomial's coin with the fewest tosses, or None if it has none."""
    # Numbers of 0 at the end count here too: the document asks for tosses by how many numbers there are.
    for tosses in range(len(numbers) - 1, MOST_TOSSES + 1):
        row = by_tosses(numbers, tosses)
        if fits(row):
            return row
    return None


def number_by_power(row, place):
    """What stands at this power in a coin's chance: each tail, one less the chance, is multiplied out."""
    total = 0
    for heads in range(place + 1):
        ways = choose(tosses_of(row) - heads, place - heads)
        if (place - heads) % 2 == 1:
            ways = -ways
        total = total + row[heads] * ways
    return total


def by_powers(row):
    """A coin's chance as a polynomial, with as many numbers as the row has."""
    return [number_by_power(row, place) for place in range(len(row))]


def is_always(numbers, number):
    """Whether the polynomial is this number, whatever it is taken at."""
    return numbers == [number] + [0] * (len(numbers) - 1)


def can_never_be(numbers, a, b):
    """Whether it is seen at a by b, a above 0 and below b, that the polynomial is no coin's."""
    value = weighed(numbers, a, b)
    sure = power(b, len(numbers) - 1)
    if value < 0 or value > sure:
        return True
    # Where heads and tails both may fall, only a coin that always says no never says yes, and the other way round.
    if value == 0:
        return not is_always(numbers, 0)
    if value == sure:
        return not is_always(numbers, 1)
    return False
