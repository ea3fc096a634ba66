"""Tables told in part, and the states that fall together by what is told."""

from editlots.echelon import factors_of, residue, useful_rows
from editlots.errors import BadTold, Can, Fallen
from editlots.shapes import tuple_between, whole_between, wholes_between
from editlots.tables import made_table, MOST_STATES

MOST_TOLD = 2000


def made_told(thing):
    """The told rows handed in, with their many, if they are such."""
    wrong = wrong_told(thing)
    if wrong is not None:
        raise BadTold(wrong)
    return thing


def told_of(table):
    """The number of states of a table, and all its entries that are no gaps."""
    made_table(table)
    n = len(table)
    rows = []
    for o, base in enumerate(table):
        for a, row in enumerate(base):
            for b in range(n):
                if row[b] is not None:
                    rows.append((o, a, b, row[b]))
    return (n, tuple(rows))


def fallen(told):
    """The least pair of states that fall together, None if there is none."""
    made_told(told)
    return least_fallen(told)


def can(told):
    """Whether no states fall together."""
    made_told(told)
    return least_fallen(told) is None


def no_paper(told):
    """Two states that fall together, and the whole factors that show it."""
    made_told(told)
    pair = least_fallen(told)
    if pair is None:
        raise Can(0)
    return fallen_paper(told, pair)


def wrong_told(thing):
    """What BadTold tells of it, None if nothing is wrong."""
    if not tuple_between(thing, 2, 2):
        return -1
    n, rows = thing
    if not whole_between(n, 1, MOST_STATES) or not tuple_between(rows, 0, MOST_TOLD):
        return -1
    for at, row in enumerate(rows):
        if not wholes_between(row, 4, 0, n - 1):
            return at
    return None


def fallen_paper(told, pair):
    """The two states of this pair, which fall together, and the factors that show it."""
    x, y = pair
    return (x, y, factors_of(all_weights(told), difference(told[0], x, y)))


def least_fallen(told):
    """The least pair of states that fall together by told rows that are in order."""
    return pair_fallen(told[0], told_basis(told))


def apart_basis(told):
    """A basis of the weights of told rows, refused where states fall together."""
    basis = told_basis(told)
    pair = pair_fallen(told[0], basis)
    if pair is not None:
        raise Fallen(pair)
    return basis


def told_basis(told):
    """A basis of the weights of told rows that are in order."""
    n, rows = told
    # Rows that are alike but for their order have the same weights, and are taken once.
    chosen = {(min(o, c), max(o, c), min(a, b), max(a, b)): True for o, a, b, c in rows}
    return useful_rows([weights(n, (o, a, b, c)) for o, c, a, b in chosen])[1]


def pair_fallen(n, basis):
    """The least pair of states that fall together by a basis of weights, None if there is none."""
    # Two states fall together exactly if the basis leaves the same of both.
    left = [residue(basis, state_row(n, state)) for state in range(n)]
    for x in range(n):
        for y in range(x + 1, n):
            if left[x] == left[y]:
                return (x, y)
    return None


def all_weights(told):
    """The weights of all told rows, in order."""
    n, rows = told
    return [weights(n, row) for row in rows]


def weights(n, row):
    """The weights of a told row: 1 at o and c, -1 at a and b, added where they meet."""
    o, a, b, c = row
    found = [0] * n
    found[o] += 1
    found[a] -= 1
    found[b] -= 1
    found[c] += 1
    return found


def state_row(n, state):
    """The row with 1 at this state and 0 elsewhere."""
    found = [0] * n
    found[state] = 1
    return found


def difference(n, x, y):
    """The row with 1 at x and -1 at y."""
    found = state_row(n, x)
    found[y] = -1
    return found
