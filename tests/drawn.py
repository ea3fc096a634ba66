"""Fields, records, lots and vaults that are drawn; what lots come to, reckoned edit by edit."""

import itertools

from editlots.kinds import amount, moved, state_at, step
from editlots.vault import Vault

K = ((4,), ((0,), (1,), (3,)))
ONE = ((), ((),))
PAIRS = ((2, 3), ((0, 0), (0, 1), (1, 0), (1, 2)))
# No rising tuples of numbers from 0 to 399, whatever there is.
NO_LOTS = (
    None, True, 0, 399, "", "0", "01", (None,), (True,), (False,), (0, True), (-1,), (400,), (0, 400), (0, 0), (1, 0),
    (0, 2, 1), ("0",), ((),), ((0,),), (0, (1,)), (0, None), (10 ** 999,), (0,) * 400, (("a", 0),),
)


def random_fields(source, many):
    """Fields of small kinds, in which many amounts are states."""
    found = []
    for _ in range(many):
        sizes = source.choice(((2,), (3,), (4,), (2, 2), (2, 3), (5,)))
        every = list(itertools.product(*[range(size) for size in sizes]))
        found.append((sizes, tuple(source.sample(every, source.randrange(1 + len(every) // 2, len(every) + 1)))))
    return tuple(found)


def random_record(source, fields):
    """Any record of these fields."""
    return tuple(source.randrange(len(hands)) for _, hands in fields)


def random_lot(source, things):
    """Some of these things, which rise, as a lot."""
    things = list(things)
    return tuple(sorted(source.sample(things, source.randrange(len(things) + 1))))


def random_vault(source, fields, many):
    """A vault with so many edits, each on any lot."""
    vault = Vault(fields, random_record(source, fields))
    for _ in range(many):
        vault.edit(random_lot(source, range(vault.edits())), random_record(source, fields))
    return vault


def reckoned(fields, record, steps):
    """The amounts of a record, moved by these steps one behind another."""
    now = tuple(amount(kind, state) for kind, state in zip(fields, record))
    for told in steps:
        now = tuple(moved(kind, x, y) for kind, x, y in zip(fields, now, told))
    return now


def reckoned_states(fields, amounts):
    """The states of these amounts, None where there is none."""
    return tuple(state_at(kind, part) for kind, part in zip(fields, amounts))


def reckoned_steps(fields, amounts, record):
    """The steps from these amounts to the record."""
    return tuple(step(kind, x, amount(kind, state)) for kind, x, state in zip(fields, amounts, record))


def wrong_records(fields):
    """What is no record of these fields, with what BadRecord tells of it."""
    many = len(fields)
    found = [(thing, -1) for thing in (None, True, 0, "", "0" * many, (), (0,) * (many - 1), (0,) * (many + 1))]
    for field, (_, hands) in enumerate(fields):
        for wrong in (len(hands), -1, None, True, False, "0", (0,), (), 10 ** 999):
            found.append(((0,) * field + (wrong,) + (None,) * (many - field - 1), field))
            found.append(((0,) * field + (wrong,) + (0,) * (many - field - 1), field))
    return found
