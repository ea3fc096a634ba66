"""Which order-proof tables are alike up to the names of their states."""

from editlots.judge import check_proof, clocks_and_hands
from editlots.tables import made_table


def names(one, two):
    """New names for the states of one with which it is two, None if there are none."""
    check_both(one, two)
    clocks, hands = clocks_and_hands(one[0])
    others, places = clocks_and_hands(two[0])
    if clocks != others:
        return None
    at = {told: state for state, told in enumerate(places)}
    return tuple([at[told] for told in hands])


def alike(one, two):
    """Whether one with new names for its states is two."""
    return names(one, two) is not None


def check_both(one, two):
    """Refuse what are not two order-proof tables."""
    made_table(one)
    made_table(two)
    check_proof(one, 0)
    check_proof(two, 1)
