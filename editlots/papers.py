"""What papers about told rows show; the told rows, also 2001 of them, are known to be in order."""

from editlots.shapes import tuple_between, whole, whole_between, wholes_between
from editlots.told import all_weights, difference


def states_all(n, things):
    """Whether each of these is one of n states."""
    return all([whole_between(thing, 0, n - 1) for thing in things])


def factors_make(told, factors, target):
    """Whether they are whole factors, one for each told row, that make the target of the weights."""
    n, rows = told
    if not tuple_between(factors, len(rows), len(rows)) or not all([whole(factor) for factor in factors]):
        return False
    total = [0] * n
    for factor, row in zip(factors, all_weights(told)):
        if factor != 0:
            total = [ahead + factor * weight for ahead, weight in zip(total, row)]
    return total == target


def sum_shows(told, x, y, factors):
    """Whether the factors show that the unlike states x and y fall together."""
    n = told[0]
    if not states_all(n, (x, y)) or x == y:
        return False
    return factors_make(told, factors, difference(n, x, y))


def meter_fits(n, thing):
    """Whether it is a meter of n states."""
    if not tuple_between(thing, 2, 2):
        return False
    size, marks = thing
    return whole(size) and size >= 2 and wholes_between(marks, n, 0, size - 1)


def keeps(meter, row):
    """Whether the meter keeps the told row."""
    size, marks = meter
    o, a, b, c = row
    return (marks[o] + marks[c] - marks[a] - marks[b]) % size == 0


def keeps_all(told, meter):
    """Whether it is a meter that keeps all told rows."""
    n, rows = told
    if not meter_fits(n, meter):
        return False
    for row in rows:
        if not keeps(meter, row):
            return False
    return True


def meters_show(told, meters):
    """Whether they are meters that keep all told rows, and part each two states."""
    if not isinstance(meters, tuple) or not all([keeps_all(told, meter) for meter in meters]):
        return False
    n = told[0]
    marked = [tuple([marks[state] for _, marks in meters]) for state in range(n)]
    return len(set(marked)) == n


def part_shows(told, part):
    """Whether it shows by meters that no states fall together, or by factors that some do."""
    if tuple_between(part, 2, 2):
        return part[0] == "yes" and meters_show(told, part[1])
    if tuple_between(part, 4, 4):
        return part[0] == "no" and sum_shows(told, part[1], part[2], part[3])
    return False
