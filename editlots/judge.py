"""Which tables are order-proof, and what shows it: clocks and hands, or a clash."""

from editlots.errors import NotProof, Proof
from editlots.histories import clash
from editlots.numbers import power, powers
from editlots.rules import broken_rule
from editlots.tables import check_full


def order_proof(table):
    """Whether in every history versions with one lot have one state."""
    check_full(table)
    return broken_rule(table) is None


def least_clash(table):
    """A history of three edits at most that clashes, and the two versions that do."""
    check_full(table)
    rule = broken_rule(table)
    if rule is None:
        raise Proof(0)
    return clash_of(table, rule)


def coordinates(table):
    """The clocks by which the states go round, and the hands of each state."""
    check_proof(table, 0)
    return clocks_and_hands(table[0])


def why(table):
    """What shows that a table is order-proof, or that it is not."""
    check_full(table)
    rule = broken_rule(table)
    if rule is None:
        return ("clocks",) + clocks_and_hands(table[0])
    return ("clash",) + clash_of(table, rule)


def check_proof(table, which):
    """Refuse what is no table, has gaps, or is not order-proof; that tells which of some tables it is."""
    check_full(table)
    if broken_rule(table) is not None:
        raise NotProof(which)


def clash_of(table, rule):
    """The history of a broken rule, and the pair of versions that clashes in it."""
    history = history_of(rule)
    i, j = clash(table, history)
    return (history, i, j)


def history_of(rule):
    """The history in which this broken rule makes a clash."""
    start = (("first", rule[1]), ("edit", 0, rule[2]))
    if rule[0] == "still":
        # This rule is told only where sides may be exchanged, so either order shows it.
        return start + (("merge", 0, 1, 0),)
    if rule[0] == "turned":
        return start + (("edit", 0, rule[3]), ("merge", 0, 1, 2), ("merge", 0, 2, 1))
    edits = (("edit", 1, rule[4]), ("edit", 0, rule[3]))
    return start + edits + (("merge", 0, 1, 3), ("merge", 1, 2, 4), ("merge", 0, 2, 3))


def clocks_and_hands(plus):
    """The clocks and hands of a commutative sum, told as its table of two."""
    n = len(plus)
    rounds = [multiples(plus, state) for state in range(n)]
    chosen = []
    for prime, often in powers(n):
        chosen = chosen + clock_rounds(plus, rounds, power(prime, often))
    hands = {0: ()}
    for one in chosen:
        hands = further_hands(plus, hands, one)
    return (tuple([len(one) for one in chosen]), tuple([hands[state] for state in range(n)]))


def multiples(plus, state):
    """0, the state, the state twice and so on, until it comes round to 0."""
    found = [0]
    now = state
    while now != 0:
        found.append(now)
        now = plus[now][state]
    return found


def clock_rounds(plus, rounds, part):
    """Rounds of one state each that make up all states whose own rounds divide part, the least first.

    Part is the greatest power of a prime by which the number of states can be
    divided. The greatest round that has nothing but 0 in common with those
    taken is always one that the rest can be parted from, so it is never wrong
    to take it.
    """
    chosen = []
    reached = [0]
    while len(reached) < part:
        best = [0]
        for one in rounds:
            if part % len(one) == 0 and len(one) > len(best) and apart(one, reached):
                best = one
        chosen.append(best)
        reached = [plus[x][y] for x in reached for y in best]
    return chosen[::-1]


def apart(one, reached):
    """Whether a round has no state but 0 in common with those reached."""
    return not any([state in reached for state in one[1:]])


def further_hands(plus, hands, one):
    """The hands of all sums of states that have hands and states of one more round."""
    found = {}
    for state, told in hands.items():
        for hand, step in enumerate(one):
            found[plus[state][step]] = told + (hand,)
    return found
