"""Polynomials, by powers, and the rows that they are by a coin's tosses."""

from madecoins.rows import MOST_TOSSES, choose, fits

MOST_NUMBERS = 7
LARGEST = 1000


def is_polynomial(numbers):
    if len(numbers) < 1 or len(numbers) > MOST_NUMBERS:
        return False
    for number in numbers:
        if number < -LARGEST or number > LARGEST:
            return False
    return True


def by_heads(numbers, tosses, heads):
    total = 0
    for power in range(min(len(numbers), heads + 1)):
        total = total + numbers[power] * choose(tosses - power, heads - power)
    return total


def by_tosses(numbers, tosses):
    """The polynomial by so many tosses, which are no fewer than its numbers, less one."""
    return [by_heads(numbers, tosses, heads) for heads in range(tosses + 1)]


def coin_with_fewest_tosses(numbers):
    """The row of the polynomial's coin with the fewest tosses, or None if it has none."""
    # Numbers of 0 at the end count here too: the document asks for tosses by how many numbers there are.
    for tosses in range(len(numbers) - 1, MOST_TOSSES + 1):
        row = by_tosses(numbers, tosses)
        if fits(row):
            return row
    return None
