"""Lots of edits: rising tuples, what two of them have together, in common, and one alone."""

from editlots.errors import BadLot

MOST_EDITS = 400
LAST_EDIT = 399


def made_lot(many, thing):
    """The lot handed in, if it is one of so many edits."""
    if not numbers_rise(thing):
        raise BadLot(-1)
    for number in thing:
        if number >= many:
            raise BadLot(number)
    return thing


def joined(one, two):
    """All that is in one of two rising tuples, or in both."""
    return tuple(sorted(one + lacking(two, one)))


def common(one, two):
    """What is in both of two rising tuples."""
    return lacking(one, lacking(one, two))


def lacking(one, two):
    """What is in the first of two rising tuples and not in the second."""
    found = []
    at = 0
    for part in one:
        while at < len(two) and two[at] < part:
            at += 1
        if at == len(two) or two[at] != part:
            found.append(part)
    return tuple(found)


def numbers_rise(thing):
    """Whether it is a rising tuple of numbers of edits."""
    if not isinstance(thing, tuple):
        return False
    ahead = -1
    for part in thing:
        # Written out, as each question to a vault asks this of all numbers of a lot.
        if not isinstance(part, int) or part is True or part is False or part <= ahead or part > LAST_EDIT:
            return False
        ahead = part
    return True
