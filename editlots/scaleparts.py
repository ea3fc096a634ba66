"""The scales of a span: the endless ones, and those of each prime.

A scale is a pair (size, column): the column has a mark for each place.
"""

from math import gcd, lcm

from editlots.echelon import bezout, combined, echelon, with_units
from editlots.errors import TooMany
from editlots.numbers import power, powers

MOST_SIZE = 1000000


def span_scales(basis, width):
    """All scales of the span of a basis, rows of so many numbers; those of size 0 stand ahead."""
    short = [basis[place] for place in sorted(basis)]
    turned = echelon(with_units([[row[place] for row in short] for place in range(width)]))
    most = greatest_order(turned, len(short))
    if most > MOST_SIZE:
        raise TooMany(most)
    found = free_scales(turned, len(short))
    for prime, often in powers(most):
        found = found + prime_scales(short, prime, often)
    return found


def greatest_order(basis, width):
    """How often each row of so many numbers must be taken, at least, to be in the span.

    The basis has a row that leads at each of these places.
    """
    most = 1
    for place in range(width):
        unit = [0] * width
        unit[place] = 1
        most = lcm(most, order_in(basis, unit))
    return most


def order_in(basis, row):
    """How often the row must be taken, at least, to be in the span."""
    order = 1
    rest = row
    for place in range(len(row)):
        lead = basis[place][place]
        times = lead // gcd(lead, rest[place])
        rest = combined(rest, basis[place], times, -(times * rest[place] // lead))
        order = order * times
    return order


def free_scales(turned, rank):
    """The scales of size 0: a basis of all columns that make 0 with each row of the span.

    They are read off the basis of the turned rows with units behind them.
    """
    return [(0, turned[place][rank:][::-1]) for place in sorted(turned) if place >= rank]


def prime_scales(rows, prime, often):
    """The scales of the powers of a prime, the least ones first.

    The rows are a basis of the span; no size is above the prime, multiplied
    so often. As one power more is kept, a number that is 0 for all scales is
    told from one that stands for the greatest size, and all is reckoned with
    small numbers.
    """
    limit = power(prime, often + 1)
    width = len(rows[0])
    bands = with_units([[row[place] % limit for row in rows] for place in range(width)])
    left = list(range(len(rows)))
    found = []
    while left:
        size, at, index = least_part(bands, left, prime, limit)
        band = bands[at]
        others = bands[:at] + bands[at + 1:]
        bands = [cleared(other, band, index, size, limit) for other in others]
        left.remove(index)
        if size > 1:
            found.append((size, [mark % size for mark in band[len(rows):][::-1]]))
    return found


def least_part(bands, left, prime, limit):
    """(part, at, index): the least power of the prime in a number that is left, and its place."""
    parts = []
    for at, band in enumerate(bands):
        for index in left:
            parts.append((prime_part(band[index], prime, limit), at, index))
    return min(parts)


def prime_part(number, prime, limit):
    """The greatest power of the prime, up to the limit, by which the number can be divided."""
    part = 1
    while part < limit and number % (part * prime) == 0:
        part = part * prime
    return part


def cleared(other, band, index, size, limit):
    """The other band with 0 at this index, by taking the band from it, which has the least part there."""
    inverse = bezout(band[index] // size, limit)[1]
    times = other[index] // size * inverse
    return [(x - times * y) % limit for x, y in zip(other, band)]
