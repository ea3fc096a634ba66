"""Kinds of things: sizes, and by these the hands of each state; amounts, and the tables of kinds."""

from editlots.errors import BadAmount, BadKind
from editlots.meters import parting_meters
from editlots.shapes import tuple_between, whole
from editlots.tables import check_state, MOST_STATES, table_of_sums
from editlots.told import pair_fallen, told_basis, told_of

MOST_SIZES = 12


def made_kind(thing):
    """The kind handed in, if it is one."""
    wrong = wrong_kind(thing)
    if wrong is not None:
        raise BadKind(wrong)
    return thing


def is_kind(thing):
    """Whether it is a kind."""
    return wrong_kind(thing) is None


def made_amount(kind, thing):
    """The amount handed in, if it is one of the kind."""
    made_kind(kind)
    check_amount(kind, thing)
    return thing


def amount(kind, state):
    """The amount of a state."""
    made_kind(kind)
    hands = kind[1]
    check_state(len(hands), state)
    return hands[state]


def state_at(kind, amount):
    """The state that has this amount, None if it is barred."""
    made_kind(kind)
    check_amount(kind, amount)
    return state_by_hands(kind[1], amount)


def moved(kind, amount, step):
    """The amount with the step added."""
    made_kind(kind)
    check_amount(kind, amount)
    check_amount(kind, step)
    return amount_sum(kind[0], amount, step)


def step(kind, one, two):
    """The step that leads from the amount one to the amount two."""
    made_kind(kind)
    check_amount(kind, one)
    check_amount(kind, two)
    return amount_step(kind[0], one, two)


def table_of(kind):
    """The table in which a less o, and b added, is told by the amounts, with gaps where that is barred."""
    made_kind(kind)
    return table_by_hands(kind[0], kind[1])


def kind_of(table):
    """A kind by which all that the table tells is so, None if there is none."""
    told = told_of(table)
    n = told[0]
    basis = told_basis(told)
    if pair_fallen(n, basis) is not None:
        return None
    found = parting_meters(n, basis)
    hands = [tuple([marks[state] for _, marks in found]) for state in range(n)]
    return (tuple([size for size, _ in found]), tuple(hands))


def wrong_kind(thing):
    """What BadKind tells of it, None for a kind."""
    if not tuple_between(thing, 2, 2):
        return -1
    sizes, hands = thing
    if not tuple_between(sizes, 0, MOST_SIZES) or not all([whole(size) and size >= 2 for size in sizes]):
        return 0
    return None if hands_fit(sizes, hands) else 1


def hands_fit(sizes, hands):
    """Whether they are hands by these sizes of one to twelve states."""
    if not tuple_between(hands, 1, MOST_STATES) or not all([amount_fits(sizes, hand) for hand in hands]):
        return False
    return len(set(hands)) == len(hands)


def amount_fits(sizes, thing):
    """Whether it is an amount by these sizes."""
    if not tuple_between(thing, len(sizes), len(sizes)):
        return False
    for size, part in zip(sizes, thing):
        # Written out, as each question to a kind asks this of all its hands.
        if not isinstance(part, int) or part is True or part is False or part < 0 or part >= size:
            return False
    return True


def check_amount(kind, thing):
    """Refuse what is no amount of the kind."""
    if not amount_fits(kind[0], thing):
        raise BadAmount(-1)


def amount_sum(sizes, one, two):
    """The sum of two amounts."""
    return tuple([(x + y) % size for size, x, y in zip(sizes, one, two)])


def amount_step(sizes, one, two):
    """The step that leads from one amount to another."""
    return tuple([(y - x) % size for size, x, y in zip(sizes, one, two)])


def state_by_hands(hands, amount):
    """The state with this amount, None if no state has it."""
    return hands.index(amount) if amount in hands else None


def entry_by_hands(kind, o, a, b):
    """The entry of the table of a kind, None also where one of the three is barred."""
    if None in (o, a, b):
        return None
    sizes, hands = kind
    return state_by_hands(hands, amount_sum(sizes, hands[a], amount_step(sizes, hands[o], hands[b])))


def table_by_hands(sizes, hands):
    """The table of a kind that is in order."""
    return table_of_sums([[amount_sum(sizes, one, two) for two in hands] for one in hands])
