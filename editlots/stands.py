"""Stands: which parts can be put in one by one so that no field is ever barred.

Here a stand is a number with a bit for each part that it has.
"""

from editlots.lotwork import LAST_EDIT
from editlots.records import amounts_fit, amounts_sum, no_field_barred
from editlots.shapes import tuple_between, whole_between

MOST_PARTS = 8


def parts_fit(fields, thing):
    """Whether it tells of 1 to 8 parts the edits and their steps, each edit with the same ones everywhere."""
    if not tuple_between(thing, 1, MOST_PARTS):
        return False
    seen = {}
    for part in thing:
        if not isinstance(part, tuple) or not pairs_fit(fields, part, seen):
            return False
    return True


def pairs_fit(fields, part, seen):
    """Whether the part has pairs of rising edits and their steps, none unlike those seen; these are seen then."""
    ahead = -1
    for pair in part:
        if not tuple_between(pair, 2, 2):
            return False
        edit, steps = pair
        if not whole_between(edit, ahead + 1, LAST_EDIT) or not amounts_fit(fields, steps):
            return False
        if seen.setdefault(edit, steps) != steps:
            return False
        ahead = edit
    return True


def shared_steps(fields, parts):
    """The steps of all edits that just the same parts have, added: a dict by the bits of these parts."""
    bits = {}
    steps = {}
    for part, pairs in enumerate(parts):
        for edit, told in pairs:
            bits[edit] = bits.get(edit, 0) | 1 << part
            steps[edit] = told
    found = {}
    for edit, which in bits.items():
        told = steps[edit]
        found[which] = amounts_sum(fields, found[which], told) if which in found else told
    return found


def steps_by_part(fields, parts):
    """For each part the shared steps that it brings, each with the bits of all parts that have it."""
    shared = shared_steps(fields, parts)
    return [[(which, told) for which, told in shared.items() if which >> part & 1] for part in range(len(parts))]


def with_part(fields, amounts, brought, stand):
    """The amounts of the stand with one more part, from those of the stand and what the part brings."""
    found = amounts
    for which, steps in brought:
        if which & stand == 0:
            found = amounts_sum(fields, found, steps)
    return found


def clean_throughout(fields, amounts, parts, order):
    """Whether no field is ever barred if all parts are put in, in this order."""
    brought = steps_by_part(fields, parts)
    now = amounts
    stand = 0
    clean = no_field_barred(fields, now)
    for part in order:
        now = with_part(fields, now, brought[part], stand)
        stand = stand | 1 << part
        clean = clean and no_field_barred(fields, now)
    return clean


def clean_ways(fields, amounts, parts):
    """The stands that can be come to by clean ones alone: a dict of an order of the parts of each.

    If the stand of all parts can be come to, others may be missing.
    """
    if not no_field_barred(fields, amounts):
        return {}
    brought = steps_by_part(fields, parts)
    full = all_parts(parts)
    found = {0: ()}
    seen = {0}
    waiting = [(0, amounts)]
    while waiting and full not in found:
        stand, now = waiting.pop()
        # The first part comes last, so that it is gone on with at once.
        for part in reversed(range(len(parts))):
            further = stand | 1 << part
            if further not in seen:
                seen.add(further)
                then = with_part(fields, now, brought[part], stand)
                if no_field_barred(fields, then):
                    found[further] = found[stand] + (part,)
                    waiting.append((further, then))
    return found


def all_parts(parts):
    """The stand of all parts."""
    return (1 << len(parts)) - 1


def parts_of(stand):
    """The numbers of the parts of a stand, rising."""
    return tuple([part for part in range(MOST_PARTS) if stand >> part & 1])


def sorted_stands(stands):
    """The stands as tuples of the numbers of their parts, rising."""
    return tuple(sorted([parts_of(stand) for stand in stands]))
