"""How many self-turnings clocks have, and how many order-proof tables there are."""

from math import factorial

from editlots.clocks import all_clocks, made_clocks
from editlots.errors import BadMany
from editlots.numbers import power, powers
from editlots.shapes import whole_between

MOST_COUNTED = 40


def self_turnings(clocks):
    """How many ways there are to exchange all hands so that sums stay sums."""
    made_clocks(clocks)
    return turnings(clocks)


def tables_count(n):
    """How many order-proof tables there are on n states."""
    if not whole_between(n, 1, MOST_COUNTED):
        raise BadMany(n)
    return sum([factorial(n) // (n * turnings(clocks)) for clocks in all_clocks(n)])


def turnings(clocks):
    """The self-turnings of clocks that are in order."""
    parts = {}
    for size in clocks:
        for prime, often in powers(size):
            parts.setdefault(prime, []).append(often)
    found = 1
    for prime, exponents in parts.items():
        found = found * prime_turnings(prime, exponents)
    return found


def prime_turnings(prime, exponents):
    """The self-turnings of clocks that are powers of one prime, with exponents that do not fall."""
    many = len(exponents)
    found = 1
    for ahead, exponent in enumerate(exponents):
        # The places of exponents alike go from least to greatest, from 1 on.
        greatest = len([other for other in exponents if other <= exponent])
        least = len([other for other in exponents if other < exponent]) + 1
        found = found * (power(prime, greatest) - power(prime, ahead))
        found = found * power(prime, exponent * (many - greatest))
        found = found * power(prime, (exponent - 1) * (many - least + 1))
    return found
