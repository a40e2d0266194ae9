"""Rows of tosses, a head 1 and a tail 0: what a coin says to them, and what is drawn by them."""

from madecoins.rows import choose


def are_tosses(tossed):
    for toss in tossed:
        if toss > 1:
            return False
    return True


def how_many_ahead(tossed):
    """How many rows of as many tosses with as many heads come ahead of this one in order."""
    ahead = 0
    heads = sum(tossed)
    behind = len(tossed)
    for toss in tossed:
        behind = behind - 1
        if toss == 1:
            heads = heads - 1
        elif heads > 0:
            # Ahead are those like it so far that have a head here.
            ahead = ahead + choose(behind, heads - 1)
    return ahead


def says_yes(row, tossed):
    return how_many_ahead(tossed) < row[sum(tossed)]


def first_unlike_pair(tossed):
    """At which place the first pair of unlike tosses begins, or None if there is none."""
    for at in range(0, len(tossed) - 1, 2):
        if tossed[at] != tossed[at + 1]:
            return at
    return None
