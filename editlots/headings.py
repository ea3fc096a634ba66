"""Headings of texts, which name states; names of states that are handed in, and states told by their names."""

from editlots.errors import BadNames, NoName, TooMany, Twice
from editlots.shapes import tuple_between
from editlots.tables import MOST_STATES
from editlots.words import name_fits


def check_state_names(names):
    """Refuse what are no names of one to twelve states."""
    if not tuple_between(names, 1, MOST_STATES):
        raise BadNames(-1)
    index = wrong_name(names)
    if index is not None:
        raise BadNames(index)


def check_as_many(names, states):
    """Refuse names that are not as many as the states."""
    if len(names) != states:
        raise BadNames(-1)


def wrong_name(names):
    """The index of the first of a tuple that is no name, or stands further ahead; None if there is none."""
    for index, name in enumerate(names):
        if not name_fits(name) or name in names[:index]:
            return index
    return None


def read_heading(reader):
    """The names of states that a text begins with."""
    found = []
    while not found or reader.word() != ":":
        place, name = reader.take_name()
        if len(found) == MOST_STATES:
            raise TooMany(place)
        if name in found:
            raise Twice(place)
        found.append(name)
    reader.take_word(":")
    return tuple(found)


def read_state(reader, names):
    """The state whose name stands next."""
    place, name = reader.take_name()
    return state_named(names, place, name)


def state_named(names, place, name):
    """The state with the name that was read at this place."""
    if name not in names:
        raise NoName(place)
    return names.index(name)


def heading_text(names):
    """The heading that names these states."""
    return " ".join(names) + ":"


def states_text(names, states):
    """The names of the states with blanks between them, gap in the place of None."""
    return " ".join(["gap" if state is None else names[state] for state in states])
