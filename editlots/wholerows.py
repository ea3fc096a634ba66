"""Rows of whole numbers: what they span, and by which marks it is told."""

from editlots.echelon import factors_of, useful_rows
from editlots.errors import BadMany, BadRow, BadRows
from editlots.scaleparts import span_scales
from editlots.shapes import tuple_between, whole, whole_between, wholes_between

MOST_ROWS = 2000
MOST_WIDTH = 13
GREATEST = 1000


def span_factors(rows, many, target):
    """Whole factors by which the rows add up to the target, None if there are none."""
    check_rows(rows, many)
    if not tuple_between(target, many, many) or not all([whole(part) for part in target]):
        raise BadRow(-1)
    return factors_of(rows, target)


def scales(rows, many):
    """(sizes, marks): the marks of each place, whose sums tell the rows of the span."""
    check_rows(rows, many)
    found = span_scales(useful_rows(rows)[1], many)
    sizes = tuple([size for size, _ in found])
    marks = tuple([tuple([column[place] for _, column in found]) for place in range(many)])
    return (sizes, marks)


def check_rows(rows, many):
    """Refuse what are no rows of so many numbers."""
    if not tuple_between(rows, 0, MOST_ROWS):
        raise BadRows(-1)
    if not whole_between(many, 1, MOST_WIDTH):
        raise BadMany(many)
    for at, row in enumerate(rows):
        if not wholes_between(row, many, -GREATEST, GREATEST):
            raise BadRows(at)
