"""The commutative sum that the entries over base 0 of an order-proof table are."""

from editlots.judge import check_proof, multiples
from editlots.tables import check_state, made_table


def plus(table, a, b):
    """The sum of two states."""
    made_table(table)
    check_state(len(table), a)
    check_state(len(table), b)
    return sums_of(table)[a][b]


def back(table, a):
    """The state that gives 0 with this one."""
    made_table(table)
    check_state(len(table), a)
    return sums_of(table)[a].index(0)


def order_of(table, a):
    """How many times the state stands in the shortest sum of nothing but it that is 0."""
    made_table(table)
    check_state(len(table), a)
    return len(multiples(sums_of(table), a))


def sums_of(table):
    """The sums of all states; refused if the table has gaps or is not order-proof."""
    check_proof(table, 0)
    return table[0]
