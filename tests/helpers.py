"""What the tests share: how refusals are checked, and values of all kinds."""

import unittest

from editlots import errors


def nested(depth):
    """An empty tuple within tuples."""
    found = ()
    for _ in range(depth):
        found = (found,)
    return found


ODD = (
    None, True, False, 0, 1, -1, 2, 13, 10 ** 999, -10 ** 999, "", "a", "first", (), (None,), (True,), (0,), (1, 2),
    ((),), ((0,),), (((0,),),), (((None,),),), (((True,),),), ((("0",),),), "0" * 20000, (0,) * 19999,
    ((0,) * 99,) * 199, nested(49), (nested(48), nested(48)), ("first", 0), (("first", 0),), (("edit", 0, 0),),
)


def outcome(call, *args):
    """What the call returns, or the name of the error's class and its what: (True, value) or (name, what)."""
    try:
        return (True, call(*args))
    except errors.Refused as error:
        return (type(error).__name__, error.what)


class Case(unittest.TestCase):
    """A test case that can tell which error is raised, and of what."""

    def refuses(self, error, what, call, *args):
        """The call raises an error of just this class, with just this argument kept in what."""
        with self.assertRaises(errors.Refused) as caught:
            call(*args)
        self.assertIs(type(caught.exception), error)
        self.assertEqual(repr(caught.exception.what), repr(what))


def changed(table, o, a, b, told):
    """The table with another entry at one place."""
    rows = [[list(row) for row in base] for base in table]
    rows[o][a][b] = told
    return tuple(tuple(tuple(row) for row in base) for base in rows)


def places(n):
    """All places of a table of n states, in order."""
    return [(o, a, b) for o in range(n) for a in range(n) for b in range(n)]


def table_by(n, told):
    """The table of n states with the entries that a function tells."""
    return tuple(tuple(tuple(told(o, a, b) for b in range(n)) for a in range(n)) for o in range(n))


def all_gaps(n):
    """The table of n states with nothing but gaps."""
    return table_by(n, lambda o, a, b: None)


def random_table(source, n, gaps):
    """A table of n states with any entries, and about so many gaps of a hundred."""
    return table_by(n, lambda o, a, b: None if source.randrange(100) < gaps else source.randrange(n))


def lots_by_sets(history):
    """The lots of all versions, and the first merge over a wrong base or None, by sets of numbers."""
    lots = []
    wrong = None
    for number, row in enumerate(history):
        if row[0] == "first":
            lots.append(set())
        elif row[0] == "edit":
            lots.append(lots[row[1]] | {number})
        else:
            lots.append(lots[row[2]] | lots[row[3]])
            if lots[row[1]] != lots[row[2]] & lots[row[3]] and wrong is None:
                wrong = number
    return [tuple(sorted(lot)) for lot in lots], wrong


def states_one_by_one(table, history):
    """The states of all versions, row by row."""
    found = []
    for row in history:
        if row[0] == "first":
            found.append(row[1])
        elif row[0] == "edit":
            found.append(row[2] if found[row[1]] is not None else None)
        else:
            o, a, b = (found[version] for version in row[1:])
            found.append(None if None in (o, a, b) else table[o][a][b])
    return tuple(found)


def clashes_of(table, history):
    """All pairs of versions with one lot and unlike states, in order."""
    lots, _ = lots_by_sets(history)
    told = states_one_by_one(table, history)
    pairs = [(i, j) for j in range(len(lots)) for i in range(j) if lots[i] == lots[j] and told[i] != told[j]]
    return sorted((i, j) for i, j in pairs if told[i] is not None and told[j] is not None)


def random_history(source, n, rows):
    """A history over n states with so many rows, its merges over any base that is right."""
    history = [("first", source.randrange(n))]
    while len(history) < rows:
        lots, _ = lots_by_sets(history)
        earlier = range(len(history))
        one, two = source.choice(earlier), source.choice(earlier)
        bases = [k for k in earlier if set(lots[k]) == set(lots[one]) & set(lots[two])]
        if bases and source.randrange(3):
            history.append(("merge", source.choice(bases), one, two))
        else:
            history.append(("edit", one, source.randrange(n)))
    return tuple(history)
