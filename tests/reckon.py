"""What the tests reckon by ways of their own."""

import itertools
import random

from editlots.tables import product, renamed, turn

from helpers import changed

# All clocks whose product is at most 12, written out.
CLOCKS = (
    (), (2,), (3,), (2, 2), (4,), (5,), (2, 3), (7,), (2, 2, 2), (2, 4), (8,), (3, 3), (9,), (2, 5), (11,),
    (2, 2, 3), (4, 3),
)


def proof_tables(source):
    """For all clocks the product of their turns, in order and in turned names, as (clocks, table)."""
    found = []
    for clocks in CLOCKS:
        table = turn(1)
        for clock in clocks:
            table = product(table, turn(clock))
        n = len(table)
        found.append((clocks, table))
        for _ in range(4):
            found.append((clocks, renamed(table, tuple(source.sample(range(n), n)))))
    return found


def turned_proof_tables():
    """Tables as proof_tables, the same at each call."""
    return proof_tables(random.Random(99))


def spoilt(source, table):
    """The table with another entry at one place; it has at least two states."""
    n = len(table)
    place = tuple(source.randrange(n) for _ in range(3))
    told = table[place[0]][place[1]][place[2]]
    return changed(table, *place, (told + source.randrange(1, n)) % n)


def breaks(table, rule):
    """Whether the table breaks the rule, word by word."""
    if rule[0] == "still":
        o, a = rule[1:]
        return table[o][a][o] != a or table[o][o][a] != a
    if rule[0] == "turned":
        o, a, b = rule[1:]
        return table[o][a][b] != table[o][b][a]
    assert rule[0] == "late"
    o, a, b, c = rule[1:]
    e = table[o][a][b]
    return table[a][c][e] != table[o][c][b]


def all_rules(n):
    """All rules over n states."""
    found = [("still",) + told for told in itertools.product(range(n), repeat=2)]
    found += [("turned",) + told for told in itertools.product(range(n), repeat=3)]
    return found + [("late",) + told for told in itertools.product(range(n), repeat=4)]


def breaks_any(table):
    """Whether the table breaks any rule."""
    return any(breaks(table, rule) for rule in all_rules(len(table)))


def diagonal(rows):
    """The numbers above 0 that whole changes of rows and places leave on the diagonal, each dividing the next."""
    rows = [list(row) for row in rows if any(row)]
    found = []
    while any(any(row) for row in rows):
        _, i, j = min((abs(x), i, j) for i, row in enumerate(rows) for j, x in enumerate(row) if x)
        pivot = rows[i][j]
        for k, row in enumerate(rows):
            if k != i:
                times = row[j] // pivot
                rows[k] = [x - times * y for x, y in zip(row, rows[i])]
        for k in range(len(rows[i])):
            if k != j:
                times = rows[i][k] // pivot
                for row in rows:
                    row[k] -= times * row[j]
        if any(row[j] for k, row in enumerate(rows) if k != i) or any(rows[i][:j] + rows[i][j + 1:]):
            continue
        odd = [row for row in rows if any(x % pivot for x in row)]
        if odd:
            rows[i] = [x + y for x, y in zip(rows[i], odd[0])]
            continue
        found.append(abs(pivot))
        rows = [row[:j] + row[j + 1:] for k, row in enumerate(rows) if k != i]
    return found


def in_span(rows, target):
    """Whether the target is in the span: with it neither the rank nor the volume changes."""
    with_it = diagonal(list(rows) + [target])
    without = diagonal(rows)
    return len(with_it) == len(without) and volume(with_it) == volume(without)


def volume(numbers):
    """The product of the numbers."""
    found = 1
    for number in numbers:
        found *= number
    return found


def prime_powers(n):
    """The prime powers whose product n is, as pairs (prime, power)."""
    found = []
    prime = 2
    while n > 1:
        power = 1
        while n % prime == 0:
            n //= prime
            power *= prime
        if power > 1:
            found.append((prime, power))
        prime += 1
    return found


def sizes_of(rows, many):
    """The sizes that belong to the rows."""
    numbers = diagonal(rows)
    pairs = sorted(pair for number in numbers for pair in prime_powers(number))
    return (0,) * (many - len(numbers)) + tuple(power for _, power in pairs)


def summed(rows, factors, width):
    """The sum of factor times row."""
    return tuple(sum(factor * row[place] for factor, row in zip(factors, rows)) for place in range(width))


def weights(n, row):
    """The weights of a told row."""
    o, a, b, c = row
    return tuple((o == x) + (c == x) - (a == x) - (b == x) for x in range(n))


def unit_difference(n, x, y):
    """The row with 1 at x and -1 at y."""
    return tuple((z == x) - (z == y) for z in range(n))


def random_told(source, n, rows):
    """So many told rows of any states."""
    return (n, tuple(tuple(source.randrange(n) for _ in range(4)) for _ in range(rows)))


def kept_told(source, n, rows, size):
    """So many told rows, at most, that some marks going round this size keep."""
    marks = source.sample(range(size), n)
    found = []
    for _ in range(20 * rows):
        o, a, b = (source.randrange(n) for _ in range(3))
        mark = (marks[a] - marks[o] + marks[b]) % size
        if mark in marks and len(found) < rows:
            found.append((o, a, b, marks.index(mark)))
    return (n, tuple(found))


def pairs_fallen(told):
    """All pairs of states that fall together, the less one ahead."""
    n, rows = told
    span = [weights(n, row) for row in rows]
    return [(x, y) for x in range(n) for y in range(x + 1, n) if in_span(span, unit_difference(n, x, y))]


def proof_tables_one_by_one(n):
    """All order-proof tables of n states: each sum is tried that is commutative, with nought 0."""
    places = [(a, b) for a in range(1, n) for b in range(a, n)]
    found = []

    def further(plus, k):
        if k == len(places):
            if all(plus[plus[a][b]][c] == plus[a][plus[b][c]] for a in range(n) for b in range(n) for c in range(n)):
                found.append(table_of_sum(plus))
            return
        a, b = places[k]
        for told in range(n):
            if told not in plus[a] and told not in plus[b]:
                plus[a][b] = plus[b][a] = told
                further(plus, k + 1)
                plus[a][b] = plus[b][a] = None

    further([[b if a == 0 else a if b == 0 else None for b in range(n)] for a in range(n)], 0)
    return found


def table_of_sum(plus):
    """The table of a less o, and b added, by this sum."""
    less = [row.index(0) for row in plus]
    states = range(len(plus))
    return tuple(tuple(tuple(plus[plus[a][less[o]]][b] for b in states) for a in states) for o in states)


def tells(table, rows):
    """Whether the table tells all these rows."""
    return all(table[o][a][b] == c for o, a, b, c in rows)


def placings(clocks, n):
    """All ways to give n states unlike hands by these clocks, those of state 0 noughts."""
    every = list(itertools.product(*[range(clock) for clock in clocks]))
    return [every[:1] + list(rest) for rest in itertools.permutations(every[1:], n - 1)]


def holds_at(clocks, hands, row):
    """Whether the told row is so by these hands."""
    o, a, b, c = (hands[state] for state in row)
    return all((o[k] + c[k] - a[k] - b[k]) % clock == 0 for k, clock in enumerate(clocks))
