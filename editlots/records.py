"""Fields: the kinds that a thing has side by side; records and amounts of them."""

from editlots.errors import BadFields, BadRecord
from editlots.kinds import amount_fits, amount_sum, is_kind
from editlots.shapes import tuple_between, whole_between

MOST_FIELDS = 6


def made_fields(thing):
    """The fields handed in, if they are fields."""
    wrong = wrong_fields(thing)
    if wrong is not None:
        raise BadFields(wrong)
    return thing


def made_record(fields, thing):
    """The record handed in, if it is one of these fields."""
    made_fields(fields)
    if not tuple_between(thing, len(fields), len(fields)):
        raise BadRecord(-1)
    for field, (_, hands) in enumerate(fields):
        if not whole_between(thing[field], 0, len(hands) - 1):
            raise BadRecord(field)
    return thing


def wrong_fields(thing):
    """What BadFields tells of it, None for fields."""
    if not tuple_between(thing, 1, MOST_FIELDS):
        return -1
    for field, kind in enumerate(thing):
        if not is_kind(kind):
            return field
    return None


def amounts_fit(fields, thing):
    """Whether it is a tuple with an amount of its kind for each of these fields."""
    if not tuple_between(thing, len(fields), len(fields)):
        return False
    return all([amount_fits(sizes, part) for (sizes, _), part in zip(fields, thing)])


def amounts_sum(fields, amounts, steps):
    """The amounts, moved by the steps field by field."""
    return tuple([amount_sum(sizes, x, y) for (sizes, _), x, y in zip(fields, amounts, steps)])


def no_field_barred(fields, amounts):
    """Whether each field has a state with its amount."""
    return all([part in hands for (_, hands), part in zip(fields, amounts)])
