"""Judges of papers: each is True just of papers that show what they are said to show.

Whatever is handed in is judged, in each argument, and nothing is raised.
"""

from editlots.clocks import all_clocks
from editlots.histories import is_history, lot_bits, states_by
from editlots.kinds import hands_fit, table_by_hands
from editlots.papers import factors_make, keeps, keeps_all, meters_show, part_shows, states_all, sum_shows
from editlots.records import amounts_fit, wrong_fields
from editlots.shapes import tuple_between, whole, whole_between
from editlots.stands import all_parts, clean_throughout, clean_ways, parts_fit, sorted_stands
from editlots.tables import gap_place, is_table, names_of, renamed
from editlots.told import weights, wrong_told


def clocks_right(table, clocks, hands):
    """Whether these are clocks and hands of a table without gaps."""
    if not is_table(table) or gap_place(table) is not None:
        return False
    n = len(table)
    if clocks not in all_clocks(n) or not hands_fit(clocks, hands):
        return False
    if len(hands) != n or any(hands[0]):
        return False
    return table_by_hands(clocks, hands) == table


def clash_right(table, history, i, j):
    """Whether i and j are versions of the history with one lot and unlike states by the table."""
    if not is_table(table) or not is_history(len(table), history):
        return False
    last = len(history) - 1
    if not whole_between(i, 0, last) or not whole_between(j, 0, last):
        return False
    bits = lot_bits(history)
    told = states_by(table, history)
    return bits[i] == bits[j] and told[i] != told[j] and told[i] is not None and told[j] is not None


def names_right(one, two, names):
    """Whether the first table, with these names, is the second."""
    if not is_table(one) or not is_table(two) or not names_of(len(one), names):
        return False
    return renamed(one, names) == two


def sum_right(told, x, y, factors):
    """Whether the factors show that the unlike states x and y fall together."""
    return wrong_told(told) is None and sum_shows(told, x, y, factors)


def meters_right(told, meters):
    """Whether the meters keep all told rows, and part each two states."""
    return wrong_told(told) is None and meters_show(told, meters)


def forced_right(told, o, a, b, c, factors):
    """Whether the factors make the weights of (o, a, b, c) of those of the told rows."""
    if wrong_told(told) is not None or not states_all(told[0], (o, a, b, c)):
        return False
    return factors_make(told, factors, weights(told[0], (o, a, b, c)))


def beyond_right(told, o, a, b, meters):
    """Whether for each state c a meter keeps all told rows and not (o, a, b, c)."""
    if wrong_told(told) is not None or not states_all(told[0], (o, a, b)):
        return False
    n = told[0]
    if not tuple_between(meters, n, n) or not all([keeps_all(told, meter) for meter in meters]):
        return False
    return not any([keeps(meter, (o, a, b, c)) for c, meter in enumerate(meters)])


def could_right(told, o, a, b, paper):
    """Whether the paper shows for each state c whether states fall together with (o, a, b, c) put behind."""
    if wrong_told(told) is not None or not states_all(told[0], (o, a, b)):
        return False
    n, rows = told
    if not tuple_between(paper, n, n):
        return False
    return all([part_shows((n, rows + ((o, a, b, c),)), part) for c, part in enumerate(paper)])


def way_right(kinds, amounts, steps, order):
    """Whether all parts, put in in this order, never bar a field."""
    if wrong_fields(kinds) is not None or not amounts_fit(kinds, amounts) or not parts_fit(kinds, steps):
        return False
    return names_of(len(steps), order) and clean_throughout(kinds, amounts, steps, order)


def blocked_right(kinds, amounts, steps, stands):
    """Whether these are all stands that can be come to by clean ones, that of all parts not among them."""
    if wrong_fields(kinds) is not None or not amounts_fit(kinds, amounts) or not parts_fit(kinds, steps):
        return False
    if not isinstance(stands, tuple) or not all([numbers_alone(stand) for stand in stands]):
        return False
    found = clean_ways(kinds, amounts, steps)
    return all_parts(steps) not in found and stands == sorted_stands(found)


def numbers_alone(thing):
    """Whether it is a tuple of nothing but numbers, so that no True in it is taken for 1."""
    return isinstance(thing, tuple) and all([whole(part) for part in thing])
