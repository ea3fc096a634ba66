"""Echelon forms of whole rows.

A basis is a dict: the first place at which a row is not 0 leads to this row,
and no two rows have the same such place. The number there is above 0.
"""


def combined(one, two, times, more):
    """The sum of times one and more two."""
    return [times * x + more * y for x, y in zip(one, two)]


def bezout(one, two):
    """(g, s, t): s times one and t times two are together g, their greatest common divisor."""
    g, s, t = one, 1, 0
    rest, s_rest, t_rest = two, 0, 1
    while rest != 0:
        times = g // rest
        g, rest = rest, g - times * rest
        s, s_rest = s_rest, s - times * s_rest
        t, t_rest = t_rest, t - times * t_rest
    if g < 0:
        return (-g, -s, -t)
    return (g, s, t)


def residue(basis, row):
    """What is left of a row when the basis is taken from it.

    Rows leave the same exactly if their difference is in the span.
    """
    rest = list(row)
    for place in sorted(basis):
        times = rest[place] // basis[place][place]
        if times != 0:
            rest = combined(rest, basis[place], 1, -times)
    return rest


def put_in(basis, row):
    """Add a row to the basis, so that the span becomes that of both."""
    rest = list(row)
    for place in range(len(row)):
        if rest[place] == 0:
            continue
        if place not in basis:
            basis[place] = rest if rest[place] > 0 else [-x for x in rest]
            break
        rest = pushed_on(basis, rest, place)
    make_tidy(basis)


def pushed_on(basis, row, place):
    """What is left of a row with a nought at this place, the basis changed so that nothing is lost."""
    held = basis[place]
    if row[place] % held[place] == 0:
        return combined(row, held, 1, -(row[place] // held[place]))
    g, s, t = bezout(held[place], row[place])
    basis[place] = combined(held, row, s, t)
    return combined(row, held, held[place] // g, -(row[place] // g))


def make_tidy(basis):
    """Bring each number over a leading one below it; else they would grow without end."""
    places = sorted(basis)
    for at in range(len(places) - 1, -1, -1):
        row = basis[places[at]]
        for place in places[at + 1:]:
            times = row[place] // basis[place][place]
            if times != 0:
                row = combined(row, basis[place], 1, -times)
        basis[places[at]] = row


def echelon(rows):
    """A tidy basis of the span of the rows."""
    basis = {}
    for row in rows:
        put_in(basis, row)
    return basis


def useful_rows(rows):
    """(numbers, basis): of rows that are not in the span of those ahead, and the basis of all."""
    numbers = []
    basis = {}
    for number, row in enumerate(rows):
        rest = residue(basis, row)
        if any(rest):
            numbers.append(number)
            put_in(basis, rest)
    return (numbers, basis)


def with_units(rows):
    """Each row with 1 at a place of its own put behind it, 0 at those of the others.

    The places stand in turned order: what a later row leaves leads at its own
    place then, and keeps the numbers of all earlier ones small.
    """
    last = len(rows) - 1
    found = []
    for number, row in enumerate(rows):
        units = [0] * len(rows)
        units[last - number] = 1
        found.append(list(row) + units)
    return found


def factors_of(rows, target):
    """Whole factors, one for each row, that make the target of the rows; None if there are none."""
    numbers, basis = useful_rows(rows)
    if any(residue(basis, target)):
        return None
    full = echelon(with_units([rows[number] for number in numbers]))
    rest = residue(full, list(target) + [0] * len(numbers))
    factors = [0] * len(rows)
    for at, number in enumerate(numbers):
        factors[number] = -rest[-1 - at]
    return tuple(factors)
