"""Meters: clocks that keep all told rows, and the sizes of the differences of states."""

from editlots.scaleparts import span_scales
from editlots.told import apart_basis, made_told, told_basis


def meters(told):
    """Meters that keep all told rows, so that each two states have unlike marks in one of them."""
    made_told(told)
    return parting_meters(told[0], apart_basis(told))


def difference_sizes(told):
    """The sizes of the weights of the told rows, with one nought less."""
    made_told(told)
    sizes = [size for size, _ in span_scales(told_basis(told), told[0])]
    # The numbers of each row of weights add up to 0, so there is a nought, and noughts stand ahead.
    return tuple(sizes[1:])


def parting_meters(n, basis):
    """Meters that keep the rows of a basis by which no two states fall together, and part all states.

    A scale is taken only if it parts states that those ahead do not, so there
    are fewer meters than states.
    """
    found = []
    marked = [()] * n
    for scale in span_scales(basis, n):
        size, marks = round_meter(scale)
        further = [ahead + (mark,) for ahead, mark in zip(marked, marks)]
        if len(set(further)) > len(set(marked)):
            found.append((size, marks))
            marked = further
    return tuple(found)


def round_meter(scale):
    """The meter of a scale; one without end goes round where that leaves unlike marks unlike."""
    size, marks = scale
    if size > 0:
        return (size, tuple(marks))
    low = min(marks)
    return (max(marks) - low + 1, tuple([mark - low for mark in marks]))
