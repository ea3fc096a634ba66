"""Tables: what merges of two sides over a base come to."""

from editlots.errors import BadMany, BadNames, BadState, BadTable, Gaps, TooMany
from editlots.shapes import tuple_between, whole_between

MOST_STATES = 12


def made_table(thing):
    """The table handed in, if it is one."""
    wrong = wrong_place(thing)
    if wrong is not None:
        raise BadTable(wrong)
    return thing


def is_table(thing):
    """Whether it is a table."""
    return wrong_place(thing) is None


def many(table):
    """How many states the table has."""
    made_table(table)
    return len(table)


def entry(table, o, a, b):
    """What the table tells over the base o of the sides a and b."""
    made_table(table)
    for state in (o, a, b):
        check_state(len(table), state)
    return table[o][a][b]


def first_gap(table):
    """The first place of a gap, None if there is none."""
    made_table(table)
    return gap_place(table)


def turn(n):
    """The table of a - o + b modulo n."""
    check_many(n)
    return filled(n, lambda o, a, b: (a - o + b) % n)


def sides(n):
    """The table in which a side that stands still yields, with gaps elsewhere."""
    check_many(n)
    return filled(n, one_side)


def once(n):
    """As sides, but two sides alike are taken once."""
    check_many(n)
    return filled(n, alike_once)


def greater(n):
    """As once, but the greater side is taken where that has a gap."""
    check_many(n)
    return filled(n, greater_side)


def product(one, two):
    """The table of pairs of states of one and of two."""
    made_table(one)
    made_table(two)
    pairs = len(one) * len(two)
    if pairs > MOST_STATES:
        raise TooMany(pairs)
    return pair_table(one, two)


def halves(table, m):
    """Two tables, the second with m states, whose product the table is, or None."""
    made_table(table)
    n = len(table)
    if not whole_between(m, 1, n) or n % m != 0:
        raise BadMany(m)
    found = (front_half(table, m), back_half(table, m))
    if pair_table(found[0], found[1]) != table:
        return None
    return found


def renamed(table, names):
    """The table with the new name names[x] for each state x."""
    made_table(table)
    n = len(table)
    if not names_of(n, names):
        raise BadNames(-1)
    old = [names.index(state) for state in range(n)]
    new = {state: names[state] for state in range(n)}
    # A gap has no new name.
    new[None] = None
    return filled(n, lambda o, a, b: new[table[old[o]][old[a]][old[b]]])


def check_many(n):
    """Refuse what is not a number of states."""
    if not whole_between(n, 1, MOST_STATES):
        raise BadMany(n)


def check_state(n, state):
    """Refuse what is none of n states."""
    if not whole_between(state, 0, n - 1):
        raise BadState(state)


def check_full(table):
    """Refuse what is no table, or one with gaps."""
    made_table(table)
    gap = gap_place(table)
    if gap is not None:
        raise Gaps(gap)


def wrong_place(thing):
    """None for a table, else what BadTable tells of it."""
    if not cube_shaped(thing):
        return -1
    n = len(thing)
    for o in range(n):
        for a in range(n):
            b = wrong_entry(thing[o][a], n)
            if b < n:
                return (o, a, b)
    return None


def cube_shaped(thing):
    """Whether it is as deep, broad and long as one to twelve states want."""
    if not tuple_between(thing, 1, MOST_STATES):
        return False
    n = len(thing)
    for base in thing:
        if not tuple_between(base, n, n):
            return False
        for side in base:
            if not tuple_between(side, n, n):
                return False
    return True


def wrong_entry(row, n):
    """The first index of what is neither one of n states nor a gap, n if there is none."""
    for at, told in enumerate(row):
        # Written out, as each question to a table asks this of all its entries.
        if told is not None:
            if not isinstance(told, int) or told is True or told is False or told < 0 or told >= n:
                return at
    return n


def gap_place(table):
    """The first place of a gap in a table, None if there is none."""
    for o, base in enumerate(table):
        for a, row in enumerate(base):
            if None in row:
                return (o, a, row.index(None))
    return None


def filled(n, told):
    """The table of n states with the entries that the function tells."""
    states = range(n)
    return tuple([tuple([tuple([told(o, a, b) for b in states]) for a in states]) for o in states])


def table_of_sums(sums):
    """The table whose entry over o of a and b is the state e that gives with o what a gives with b.

    Sums has what each two states give; a gap stands where there is no such state.
    """
    found = []
    for row in sums:
        back = {told: e for e, told in enumerate(row)}
        found.append(tuple([tuple([back.get(told) for told in side]) for side in sums]))
    return tuple(found)


def one_side(o, a, b):
    """The side that did not stand still, a gap if both moved."""
    if a == o:
        return b
    if b == o:
        return a
    return None


def alike_once(o, a, b):
    """What both sides tell alike, else as one_side."""
    if a == b:
        return a
    return one_side(o, a, b)


def greater_side(o, a, b):
    """As alike_once, with the greater side in the place of a gap."""
    told = alike_once(o, a, b)
    if told is None:
        return max(a, b)
    return told


def pair_table(one, two):
    """The table of pairs, however many there are."""
    m = len(two)
    found = []
    for base in one:
        for other in two:
            found.append(tuple([pair_row(x, y, m) for x in base for y in other]))
    return tuple(found)


def pair_row(one, two, m):
    """The entries of pairs of one row's entries and another's, in order."""
    return tuple([None if x is None or y is None else x * m + y for x in one for y in two])


def front_half(table, m):
    """What the first parts of the pairs come to, if the table is a product."""
    pairs = [list(range(x, x + m)) for x in range(0, len(table), m)]

    def told(o, a, b):
        found = some_entry(table, pairs[o], pairs[a], pairs[b])
        return None if found is None else found // m

    return filled(len(pairs), told)


def back_half(table, m):
    """What the second parts of the pairs, of m states, come to, if the table is a product."""
    pairs = [list(range(y, len(table), m)) for y in range(m)]

    def told(o, a, b):
        found = some_entry(table, pairs[o], pairs[a], pairs[b])
        return None if found is None else found % m

    return filled(m, told)


def some_entry(table, bases, ones, twos):
    """Any entry at these places that is no gap, None if all are gaps."""
    for o in bases:
        for a in ones:
            for b in twos:
                if table[o][a][b] is not None:
                    return table[o][a][b]
    return None


def names_of(n, names):
    """Whether names are a tuple with each of n states just once."""
    if not tuple_between(names, n, n):
        return False
    for name in names:
        if not whole_between(name, 0, n - 1):
            return False
    return sorted(names) == list(range(n))
