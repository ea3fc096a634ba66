"""Clocks: prime powers in order, their kinds, and the tables that go round by them."""

from editlots.errors import BadClocks, BadMany, TooMany
from editlots.numbers import power, powers
from editlots.shapes import whole_between
from editlots.tables import MOST_STATES, pair_table, turn

MOST_SIZE = 1000000
MOST_KINDS = 1000


def made_clocks(thing):
    """The clocks handed in, if they are clocks."""
    if not isinstance(thing, tuple):
        raise BadClocks(-1)
    ahead = ((0, 0),)
    for at, size in enumerate(thing):
        if not whole_between(size, 2, MOST_SIZE):
            raise BadClocks(at)
        now = powers(size)
        if len(now) != 1 or now < ahead:
            raise BadClocks(at)
        ahead = now
    return thing


def kinds(n):
    """All clocks with the product n, rising as tuples."""
    if not whole_between(n, 1, MOST_KINDS):
        raise BadMany(n)
    return all_clocks(n)


def table_of_clocks(clocks):
    """The order-proof table with these clocks, its states numbered by their hands."""
    made_clocks(clocks)
    states = 1
    for size in clocks:
        states = states * size
    if states > MOST_STATES:
        raise TooMany(states)
    table = turn(1)
    for size in clocks:
        table = pair_table(table, turn(size))
    return table


def all_clocks(n):
    """All clocks with this product, rising as tuples."""
    found = [()]
    for prime, often in powers(n):
        ways = [tuple([power(prime, part) for part in parts]) for parts in partitions(often, 1)]
        found = [ahead + sizes for ahead in found for sizes in ways]
    return tuple(sorted(found))


def partitions(total, least):
    """All ways to part the total into numbers that do not fall, none below the least."""
    if total == 0:
        return [()]
    found = []
    for first in range(least, total + 1):
        found = found + [(first,) + rest for rest in partitions(total - first, first)]
    return found
