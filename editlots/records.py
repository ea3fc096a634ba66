"""Fields: the kinds that a thing has side by side; records and amounts of them."""

from editlots.errors import BadFields, BadRecord
from editlots.kinds import amount_fits, amount_step, amount_sum, is_kind, state_by_hands
from editlots.shapes import tuple_between, whole_between

MOST_FIELDS = 6


def made_fields(thing):
    """The fields handed in, if they are fields."""
    wrong = wrong_fields(thing)
    if wrong is not None:
        raise BadFields(wrong)
    return thing


def made_record(fields, thing):
    """The record handed in, if it is one of these fields."""
    made_fields(fields)
    check_record(fields, thing)
    return thing


def wrong_fields(thing):
    """What BadFields tells of it, None for fields."""
    if not tuple_between(thing, 1, MOST_FIELDS):
        return -1
    for field, kind in enumerate(thing):
        if not is_kind(kind):
            return field
    return None


def check_record(fields, thing):
    """Refuse what is no record of these fields, which are known to be in order."""
    if not tuple_between(thing, len(fields), len(fields)):
        raise BadRecord(-1)
    for field, (_, hands) in enumerate(fields):
        if not whole_between(thing[field], 0, len(hands) - 1):
            raise BadRecord(field)


def amounts_fit(fields, thing):
    """Whether it is a tuple with an amount of its kind for each of these fields."""
    if not tuple_between(thing, len(fields), len(fields)):
        return False
    return all([amount_fits(sizes, part) for (sizes, _), part in zip(fields, thing)])


def amounts_sum(fields, amounts, steps):
    """The amounts, moved by the steps field by field."""
    return tuple([amount_sum(sizes, x, y) for (sizes, _), x, y in zip(fields, amounts, steps)])


def amounts_moved(fields, amounts, moves):
    """The amounts, moved by all of these steps."""
    rows = [amounts] + moves
    by_field = list(zip(*rows))
    return tuple([total_amount(sizes, parts) for (sizes, _), parts in zip(fields, by_field)])


def total_amount(sizes, parts):
    """The sum of one or more amounts."""
    by_place = list(zip(*parts))
    return tuple([sum(numbers) % size for size, numbers in zip(sizes, by_place)])


def amounts_of_record(fields, record):
    """The amounts of the states of a record."""
    return tuple([hands[state] for (_, hands), state in zip(fields, record)])


def steps_between(fields, one, two):
    """The steps that lead from the amounts one to the amounts two."""
    return tuple([amount_step(sizes, x, y) for (sizes, _), x, y in zip(fields, one, two)])


def states_of_amounts(fields, amounts):
    """The state of each field with its amount, None for a barred one."""
    return tuple([state_by_hands(hands, part) for (_, hands), part in zip(fields, amounts)])


def barred_fields(fields, amounts):
    """The fields that have no state with their amount, rising."""
    return tuple([field for field, (_, hands) in enumerate(fields) if amounts[field] not in hands])


def no_field_barred(fields, amounts):
    """Whether each field has a state with its amount."""
    return all([part in hands for (_, hands), part in zip(fields, amounts)])
