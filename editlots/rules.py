"""The rules that a table without gaps keeps exactly if it is order-proof."""

from editlots.tables import check_full


def broken(table):
    """A rule that a table without gaps breaks, None if it breaks none."""
    check_full(table)
    return broken_rule(table)


def broken_rule(table):
    """A broken rule of a table that is known to be one without gaps."""
    rule = broken_turned(table)
    if rule is None:
        rule = broken_still(table)
    if rule is None:
        rule = broken_late(table)
    return rule


def broken_turned(table):
    """A broken rule of kind turned, None if there is none."""
    for o, base in enumerate(table):
        if tuple(zip(*base)) != base:
            return first_turned(o, base)
    return None


def first_turned(o, base):
    """The first sides over this base whose exchange makes a difference."""
    for a, row in enumerate(base):
        for b, told in enumerate(row):
            if base[b][a] != told:
                return ("turned", o, a, b)
    return None


def broken_still(table):
    """A broken rule of kind still, None if there is none; sides may be exchanged in the table."""
    for o, base in enumerate(table):
        for a, told in enumerate(base[o]):
            if told != a:
                return ("still", o, a)
    return None


def broken_late(table):
    """A broken rule of kind late, None if there is none; sides may be exchanged in the table."""
    for o, base in enumerate(table):
        for a, row in enumerate(base):
            for b, e in enumerate(row):
                # Sides may be exchanged, so a row holds what a column does,
                # and two rows tell of all c at once.
                if table[a][e] != base[b]:
                    return ("late", o, a, b, first_unlike(table[a][e], base[b]))
    return None


def first_unlike(one, two):
    """The first index at which two unlike rows of one length differ."""
    return [x == y for x, y in zip(one, two)].index(False)
