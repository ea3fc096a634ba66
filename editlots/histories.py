"""Histories of versions, their lots of edits, their states and their clashes."""

from editlots.errors import BadBase, BadHistory
from editlots.shapes import tuple_between, whole_between
from editlots.tables import check_many, made_table, MOST_STATES

MOST_ROWS = 40


def made_history(n, thing):
    """The history over n states that is handed in, if it is one."""
    check_many(n)
    check_history(n, thing)
    return thing


def is_history(n, thing):
    """Whether n is a number of states, and it is a history over them."""
    if not whole_between(n, 1, MOST_STATES):
        return False
    return wrong_row(n, thing) is None and wrong_base(thing) is None


def lots(n, history):
    """The lot of each version: the numbers of all edits that are in it."""
    check_many(n)
    check_history(n, history)
    rows = range(len(history))
    return tuple([tuple([k for k in rows if lot >> k & 1]) for lot in lot_bits(history)])


def states(table, history):
    """What each version comes to by the table, None where a gap stands in the way."""
    made_table(table)
    check_history(len(table), history)
    return states_by(table, history)


def clash(table, history):
    """The least pair of versions with one lot and unlike states, None if there is none."""
    made_table(table)
    check_history(len(table), history)
    return least_pair(lot_bits(history), states_by(table, history))


def check_history(n, thing):
    """Refuse what is no history over n states."""
    wrong = wrong_row(n, thing)
    if wrong is not None:
        raise BadHistory(wrong)
    number = wrong_base(thing)
    if number is not None:
        raise BadBase(number)


def wrong_row(n, thing):
    """What BadHistory tells of it, None if all rows are of their form."""
    if not tuple_between(thing, 1, MOST_ROWS):
        return -1
    for number, row in enumerate(thing):
        if not row_fits(n, number, row):
            return number
    return None


def row_fits(n, number, row):
    """Whether it is of the form that the row of this number has."""
    if number == 0:
        return tuple_between(row, 2, 2) and row[0] == "first" and whole_between(row[1], 0, n - 1)
    if tuple_between(row, 3, 3):
        return row[0] == "edit" and elder(row[1], number) and whole_between(row[2], 0, n - 1)
    if tuple_between(row, 4, 4):
        return row[0] == "merge" and all([elder(told, number) for told in row[1:]])
    return False


def elder(told, number):
    """Whether it is the number of a row ahead of this one."""
    return whole_between(told, 0, number - 1)


def wrong_base(history):
    """The first merge whose base is not what both sides share, None if there is none."""
    bits = lot_bits(history)
    for number, row in enumerate(history):
        if row[0] == "merge" and bits[row[1]] != bits[row[2]] & bits[row[3]]:
            return number
    return None


def lot_bits(history):
    """The lot of each version as a number, with a bit for each edit."""
    bits = []
    for number, row in enumerate(history):
        if row[0] == "first":
            bits.append(0)
        elif row[0] == "edit":
            bits.append(bits[row[1]] | 1 << number)
        else:
            bits.append(bits[row[2]] | bits[row[3]])
    return bits


def states_by(table, history):
    """The states of the versions, of a table and a history that are in order."""
    found = []
    for row in history:
        if row[0] == "first":
            found.append(row[1])
        elif row[0] == "edit":
            found.append(None if found[row[1]] is None else row[2])
        else:
            found.append(merged_state(table, [found[version] for version in row[1:]]))
    return tuple(found)


def merged_state(table, three):
    """The entry of base, one and two, None if one of them has no state."""
    if None in three:
        return None
    o, a, b = three
    return table[o][a][b]


def least_pair(bits, told):
    """The least pair of versions with one lot and unlike states, None if there is none."""
    versions = [k for k in range(len(told)) if told[k] is not None]
    for at, i in enumerate(versions):
        for j in versions[at + 1:]:
            if bits[i] == bits[j] and told[i] != told[j]:
                return (i, j)
    return None
