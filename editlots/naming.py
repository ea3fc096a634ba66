"""Names of branches, heads and hands, and the heads that stand under them."""

from editlots.errors import BadName, NoBranch

MOST_NAME_SIGNS = 12


def is_name(thing):
    """Whether it is 1 to 12 small letters and figures of ASCII, a letter first."""
    if not isinstance(thing, str) or not 1 <= len(thing) <= MOST_NAME_SIGNS:
        return False
    return thing.isascii() and thing.isalnum() and thing.islower() and thing[0].isalpha()


def check_name(thing):
    """Refuse what is no name."""
    if not is_name(thing):
        raise BadName(thing)


def head_of(heads, name):
    """The lot of the head with this name; refused if there is none."""
    if not is_name(name) or name not in heads:
        raise NoBranch(name)
    return heads[name]
