"""Order-proof tables of just the told states."""

from editlots.clocks import all_clocks
from editlots.errors import TooMany
from editlots.kinds import table_by_hands
from editlots.told import made_told, pair_fallen, told_basis

MOST_FITTED = 8


def complete(told):
    """An order-proof table of just these states that tells all told rows, None if there is none."""
    made_told(told)
    n = told[0]
    if n > MOST_FITTED:
        raise TooMany(n)
    basis = told_basis(told)
    if pair_fallen(n, basis) is not None:
        return None
    for clocks in all_clocks(n):
        every = all_hands(clocks)
        # All hands can be moved alike, so those of the last state may be noughts.
        hands = placed(clocks, every, basis, every[:1])
        if hands is not None:
            return table_by_hands(clocks, tuple(hands))
    return None


def all_hands(clocks):
    """All hands that go by these clocks, rising."""
    found = [()]
    for size in clocks:
        found = [ahead + (hand,) for ahead in found for hand in range(size)]
    return found


def placed(clocks, every, basis, behind):
    """Unlike hands of all states that keep the basis, with these of the last ones; None if there are none."""
    place = len(every) - len(behind) - 1
    if place < 0:
        return behind
    for hands in choices(clocks, every, basis.get(place), behind):
        found = placed(clocks, every, basis, [hands] + behind)
        if found is not None:
            return found
    return None


def choices(clocks, every, row, behind):
    """The hands that are left for the state ahead of these, and that keep the row that leads there."""
    left = [hands for hands in every if hands not in behind]
    if row is None:
        return left
    place = len(row) - len(behind) - 1
    wanted = [
        -sum([weight * hands[k] for weight, hands in zip(row[place + 1:], behind)]) % clocks[k]
        for k in range(len(clocks))
    ]
    lead = row[place]
    return [hands for hands in left if [lead * hand % size for hand, size in zip(hands, clocks)] == wanted]
