"""Rows of whole numbers: what they span, and by which marks it is told."""

from editlots.echelon import echelon, factors_of, useful_rows, with_units
from editlots.errors import BadMany, BadRow, BadRows, TooMany
from editlots.numbers import powers
from editlots.scaleparts import free_scales, greatest_order, prime_scales
from editlots.shapes import tuple_between, whole, whole_between, wholes_between

MOST_ROWS = 2000
MOST_WIDTH = 13
GREATEST = 1000
MOST_SIZE = 1000000


def span_factors(rows, many, target):
    """Whole factors by which the rows add up to the target, None if there are none."""
    check_rows(rows, many)
    if not tuple_between(target, many, many) or not all([whole(part) for part in target]):
        raise BadRow(-1)
    return factors_of(rows, target)


def scales(rows, many):
    """(sizes, marks): the marks of each place, whose sums tell the rows of the span."""
    check_rows(rows, many)
    basis = useful_rows(rows)[1]
    short = [basis[place] for place in sorted(basis)]
    turned = echelon(with_units([[row[place] for row in short] for place in range(many)]))
    most = greatest_order(turned, len(short))
    if most > MOST_SIZE:
        raise TooMany(most)
    found = free_scales(turned, len(short))
    for prime, often in powers(most):
        found = found + prime_scales(short, prime, often)
    sizes = tuple([size for size, _ in found])
    marks = tuple([tuple([column[place] for _, column in found]) for place in range(many)])
    return (sizes, marks)


def check_rows(rows, many):
    """Refuse what are no rows of so many numbers."""
    if not tuple_between(rows, 0, MOST_ROWS):
        raise BadRows(-1)
    if not whole_between(many, 1, MOST_WIDTH):
        raise BadMany(many)
    for at, row in enumerate(rows):
        if not wholes_between(row, many, -GREATEST, GREATEST):
            raise BadRows(at)
