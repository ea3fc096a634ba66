"""Ways in which the parts of a lot can be joined one by one, without a barred field on the way."""

from editlots.errors import BadParts, CleanWay
from editlots.lotwork import lacking, made_lot
from editlots.shapes import tuple_between
from editlots.stands import all_parts, clean_ways, MOST_PARTS, sorted_stands


def part_steps(vault, lot, parts):
    """For each part its edits that are not in the lot, with their steps."""
    made_lot(vault.edits(), lot)
    if not tuple_between(parts, 1, MOST_PARTS):
        raise BadParts(-1)
    for part in parts:
        made_lot(vault.edits(), part)
    return tuple([tuple([(edit, vault.steps_of(edit)) for edit in lacking(part, lot)]) for part in parts])


def clean_way(vault, lot, parts):
    """An order in which all parts can be put in, no field ever being barred; None if there is none."""
    return ways_to_stands(vault, lot, parts).get(all_parts(parts))


def blocked(vault, lot, parts):
    """All stands that can be come to by clean ones, if that of all parts cannot."""
    found = ways_to_stands(vault, lot, parts)
    if all_parts(parts) in found:
        raise CleanWay(0)
    return sorted_stands(found)


def ways_to_stands(vault, lot, parts):
    """The stands that can be come to from the lot, with an order of the parts of each."""
    steps = part_steps(vault, lot, parts)
    return clean_ways(vault.fields(), vault.amounts(lot), steps)
