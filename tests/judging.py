"""The judges of papers once more, word by word, to hold the package's own against."""

from helpers import lots_by_sets, places, states_one_by_one
from reckon import prime_powers, summed, unit_difference, volume, weights


def between(thing, low, high):
    """Whether it is a number from low to high; True and False are none."""
    return type(thing) is int and low <= thing <= high


def tuple_of(thing, many, fits):
    """Whether it is a tuple of as many, of any many if that is None, that all fit."""
    return type(thing) is tuple and many in (None, len(thing)) and all(fits(part) for part in thing)


def table_fits(thing):
    """Whether it is a table, perhaps with gaps."""
    if type(thing) is not tuple or not 1 <= len(thing) <= 12:
        return False
    n = len(thing)

    def entry_fits(part):
        return part is None or between(part, 0, n - 1)

    return tuple_of(thing, n, lambda base: tuple_of(base, n, lambda row: tuple_of(row, n, entry_fits)))


def clocks_fit(thing, n):
    """Whether they are prime powers in order with the product n."""
    if not tuple_of(thing, None, lambda size: between(size, 2, n)) or volume(thing) != n:
        return False
    parts = [prime_powers(size) for size in thing]
    return all(len(part) == 1 for part in parts) and parts == sorted(parts)


def clocks_hold(table, clocks, hands):
    """What clocks_right has to say."""
    if not table_fits(table) or any(None in row for base in table for row in base):
        return False
    n = len(table)
    if not clocks_fit(clocks, n) or not tuple_of(hands, n, lambda told: amount_fits(clocks, told)):
        return False
    if any(hands[x] == hands[y] for x in range(n) for y in range(x)) or set(hands[0]) - {0}:
        return False
    return all(
        (hands[a][k] - hands[o][k] + hands[b][k] - hands[table[o][a][b]][k]) % clock == 0
        for o, a, b in places(n) for k, clock in enumerate(clocks)
    )


def row_fits(n, number, row):
    """Whether it is of the form of a history's row of this number."""
    if type(row) is not tuple or not row or type(row[0]) is not str:
        return False
    if number == 0:
        return len(row) == 2 and row[0] == "first" and between(row[1], 0, n - 1)
    if row[0] == "edit":
        return len(row) == 3 and between(row[1], 0, number - 1) and between(row[2], 0, n - 1)
    return len(row) == 4 and row[0] == "merge" and all(between(version, 0, number - 1) for version in row[1:])


def history_fits(n, thing):
    """Whether it is a history over n states."""
    if type(thing) is not tuple or not 1 <= len(thing) <= 40:
        return False
    return all(row_fits(n, number, row) for number, row in enumerate(thing)) and lots_by_sets(thing)[1] is None


def clash_holds(table, history, i, j):
    """What clash_right has to say."""
    if not table_fits(table) or not history_fits(len(table), history):
        return False
    if not all(between(version, 0, len(history) - 1) for version in (i, j)):
        return False
    lots, _ = lots_by_sets(history)
    told = states_one_by_one(table, history)
    return lots[i] == lots[j] and None not in (told[i], told[j]) and told[i] != told[j]


def names_hold(one, two, names):
    """What names_right has to say."""
    if not table_fits(one) or not table_fits(two):
        return False
    n = len(one)
    if not tuple_of(names, n, lambda name: between(name, 0, n - 1)) or len(set(names)) != n or len(two) != n:
        return False
    new = dict(enumerate(names)) | {None: None}
    return all(two[names[o]][names[a]][names[b]] == new[one[o][a][b]] for o, a, b in places(n))


def told_fits(thing, most=2000):
    """Whether it is a table told in part."""
    if not tuple_of(thing, 2, lambda part: True) or not between(thing[0], 1, 12):
        return False
    n, rows = thing
    fits = tuple_of(rows, None, lambda row: tuple_of(row, 4, lambda state: between(state, 0, n - 1)))
    return fits and len(rows) <= most


def factors_hold(told, factors, target):
    """Whether they are factors that make the target of the weights."""
    n, rows = told
    if not tuple_of(factors, len(rows), lambda factor: type(factor) is int):
        return False
    return summed([weights(n, row) for row in rows], factors, n) == target


def sum_holds(told, x, y, factors, most=2000):
    """What sum_right has to say."""
    if not told_fits(told, most):
        return False
    n = told[0]
    if not between(x, 0, n - 1) or not between(y, 0, n - 1) or x == y:
        return False
    return factors_hold(told, factors, unit_difference(n, x, y))


def meter_fits(n, thing):
    """Whether it is a meter of n states."""
    if type(thing) is not tuple or len(thing) != 2 or type(thing[0]) is not int or thing[0] < 2:
        return False
    return tuple_of(thing[1], n, lambda mark: between(mark, 0, thing[0] - 1))


def kept(meter, row):
    """Whether the meter keeps the row."""
    o, a, b, c = (meter[1][state] for state in row)
    return (o + c) % meter[0] == (a + b) % meter[0]


def meters_hold(told, meters, most=2000):
    """What meters_right has to say."""
    if not told_fits(told, most) or not tuple_of(meters, None, lambda meter: meter_fits(told[0], meter)):
        return False
    n, rows = told
    if not all(kept(meter, row) for meter in meters for row in rows):
        return False
    return all(any(marks[x] != marks[y] for _, marks in meters) for x in range(n) for y in range(x))


def forced_holds(told, o, a, b, c, factors):
    """What forced_right has to say."""
    if not told_fits(told) or not all(between(state, 0, told[0] - 1) for state in (o, a, b, c)):
        return False
    return factors_hold(told, factors, weights(told[0], (o, a, b, c)))


def beyond_holds(told, o, a, b, meters):
    """What beyond_right has to say."""
    if not told_fits(told) or not all(between(state, 0, told[0] - 1) for state in (o, a, b)):
        return False
    n, rows = told
    if not tuple_of(meters, n, lambda meter: meter_fits(n, meter)):
        return False
    if not all(kept(meter, row) for meter in meters for row in rows):
        return False
    return not any(kept(meters[c], (o, a, b, c)) for c in range(n))


def could_holds(told, o, a, b, paper):
    """What could_right has to say."""
    if not told_fits(told) or not all(between(state, 0, told[0] - 1) for state in (o, a, b)):
        return False
    n, rows = told
    if not tuple_of(paper, n, lambda part: type(part) is tuple):
        return False
    for c, part in enumerate(paper):
        more = (n, rows + ((o, a, b, c),))
        yes = len(part) == 2 and part[0] == "yes" and meters_hold(more, part[1], 2001)
        no = len(part) == 4 and part[0] == "no" and sum_holds(more, part[1], part[2], part[3], 2001)
        if not yes and not no:
            return False
    return True


def amount_fits(sizes, thing):
    """Whether it has a number for each size."""
    return tuple_of(thing, len(sizes), lambda part: type(part) is int) and all(
        0 <= part < size for size, part in zip(sizes, thing)
    )


def kind_fits(thing):
    """Whether it is a kind."""
    if not tuple_of(thing, 2, lambda part: type(part) is tuple):
        return False
    sizes, hands = thing
    if len(sizes) > 12 or not all(type(size) is int and size >= 2 for size in sizes):
        return False
    fits = 1 <= len(hands) <= 12 and all(amount_fits(sizes, told) for told in hands)
    return fits and not any(hands[x] == hands[y] for x in range(len(hands)) for y in range(x))


def fields_fit(thing):
    """Whether they are fields."""
    return tuple_of(thing, None, kind_fits) and 1 <= len(thing) <= 6


def amounts_fit(fields, thing):
    """Whether there is an amount for each field."""
    return tuple_of(thing, len(fields), lambda part: True) and all(
        amount_fits(kind[0], part) for kind, part in zip(fields, thing)
    )


def part_fits(fields, thing):
    """Whether it tells the edits of a part, rising, and their steps."""
    if not tuple_of(thing, None, lambda pair: tuple_of(pair, 2, lambda part: True)):
        return False
    edits = [edit for edit, _ in thing]
    if not all(between(edit, 0, 399) for edit in edits) or edits != sorted(set(edits)):
        return False
    return all(amounts_fit(fields, steps) for _, steps in thing)


def parts_fit(fields, thing):
    """Whether it is what part_steps may return."""
    if not tuple_of(thing, None, lambda part: part_fits(fields, part)) or not 1 <= len(thing) <= 8:
        return False
    pairs = {pair for part in thing for pair in part}
    return len(pairs) == len({edit for edit, _ in pairs})


def clean(fields, amounts, steps, stand):
    """Whether no field is barred if these parts are put in."""
    pairs = {pair for part in stand for pair in steps[part]}
    for field, (sizes, hands) in enumerate(fields):
        told = [(amounts[field][k] + sum(pair[1][field][k] for pair in pairs)) % size for k, size in enumerate(sizes)]
        if tuple(told) not in hands:
            return False
    return True


def ways_fit(kinds, amounts, steps):
    """Whether the first three arguments of the judges of ways are as they must be."""
    return fields_fit(kinds) and amounts_fit(kinds, amounts) and parts_fit(kinds, steps)


def way_holds(kinds, amounts, steps, order):
    """What way_right has to say."""
    if not ways_fit(kinds, amounts, steps) or not tuple_of(order, len(steps), lambda part: type(part) is int):
        return False
    if sorted(order) != list(range(len(steps))):
        return False
    return all(clean(kinds, amounts, steps, order[:k]) for k in range(len(order) + 1))


def stands_come_to(kinds, amounts, steps):
    """All clean stands that can be come to by clean ones."""
    found = {()} if clean(kinds, amounts, steps, ()) else set()
    ahead = sorted(found)
    while ahead:
        further = {tuple(sorted(stand + (part,))) for stand in ahead for part in range(len(steps)) if part not in stand}
        ahead = [stand for stand in sorted(further - found) if clean(kinds, amounts, steps, stand)]
        found |= set(ahead)
    return tuple(sorted(found))


def blocked_holds(kinds, amounts, steps, stands):
    """What blocked_right has to say."""
    if not ways_fit(kinds, amounts, steps):
        return False
    # As texts, since True is equal to 1.
    wanted = stands_come_to(kinds, amounts, steps)
    return repr(stands) == repr(wanted) and tuple(range(len(steps))) not in wanted
