"""Entries that are forced by told rows, and those that could be."""

from editlots.echelon import combined, factors_of, put_in, residue
from editlots.meters import parting_meters
from editlots.scaleparts import span_scales
from editlots.tables import check_state, table_of_sums
from editlots.told import all_weights, apart_basis, fallen_paper, made_told, pair_fallen, state_row, weights


def forced(told, o, a, b):
    """The state that the entry is in each order-proof table with these rows, None if there is none."""
    basis = place_basis(told, o, a, b)
    return forced_by(told[0], basis, o, a, b)


def forced_paper(told, o, a, b):
    """What shows which state is forced, or that none is."""
    basis = place_basis(told, o, a, b)
    n = told[0]
    c = forced_by(n, basis, o, a, b)
    if c is not None:
        return ("forced", c, factors_of(all_weights(told), weights(n, (o, a, b, c))))
    scales = span_scales(basis, n)
    return ("beyond", tuple([breaking_meter(scales, weights(n, (o, a, b, c))) for c in range(n)]))


def known(told):
    """The table of all entries that are forced, with gaps elsewhere."""
    made_told(told)
    basis = apart_basis(told)
    rows = [state_row(told[0], state) for state in range(told[0])]
    # What is left of the sums of two states is alike exactly if a told row can be made of the two.
    return table_of_sums([[tuple(residue(basis, combined(one, two, 1, 1))) for two in rows] for one in rows])


def could(told, o, a, b):
    """The states that the entry is in some order-proof table with these rows, rising."""
    basis = place_basis(told, o, a, b)
    n = told[0]
    return tuple([c for c in range(n) if pair_fallen(n, with_row(n, basis, (o, a, b, c))) is None])


def could_paper(told, o, a, b):
    """For each state what shows whether the entry can be this one."""
    basis = place_basis(told, o, a, b)
    return tuple([could_part(told, basis, (o, a, b, c)) for c in range(told[0])])


def place_basis(told, o, a, b):
    """A basis of the weights of told rows; refused if these are no states, or states fall together."""
    made_told(told)
    for state in (o, a, b):
        check_state(told[0], state)
    return apart_basis(told)


def forced_by(n, basis, o, a, b):
    """The state that is forced by the basis, None if there is none."""
    for c in range(n):
        if not any(residue(basis, weights(n, (o, a, b, c)))):
            return c
    return None


def breaking_meter(scales, row):
    """A meter that keeps all that the scales tell, and not what has these weights."""
    for size, marks in scales:
        total = sum([weight * mark for weight, mark in zip(row, marks)])
        if size == 0 and total != 0:
            # It goes round a little beyond the total, which is no multiple of it then.
            beyond = abs(total) + 1
            return (beyond, tuple([mark % beyond for mark in marks]))
        if size > 0 and total % size != 0:
            return (size, tuple(marks))
    return None


def with_row(n, basis, row):
    """The basis with the weights of one more told row."""
    found = dict(basis)
    rest = residue(basis, weights(n, row))
    if any(rest):
        put_in(found, rest)
    return found


def could_part(told, basis, row):
    """Meters of the told rows with one more put behind, or what shows that states fall together."""
    n, rows = told
    further = with_row(n, basis, row)
    pair = pair_fallen(n, further)
    if pair is None:
        return ("yes", parting_meters(n, further))
    return ("no",) + fallen_paper((n, rows + (row,)), pair)
