"""What numbers and tuples are, asked of any values."""


def whole(thing):
    """Whether it is a number; True and False are none."""
    return isinstance(thing, int) and not isinstance(thing, bool)


def whole_between(thing, low, high):
    """Whether it is a number from low to high."""
    return whole(thing) and low <= thing <= high


def tuple_between(thing, least, most):
    """Whether it is a tuple of at least and at most so many parts."""
    return isinstance(thing, tuple) and least <= len(thing) <= most


def wholes_between(thing, many, low, high):
    """Whether it is a tuple of so many numbers, each from low to high."""
    if not tuple_between(thing, many, many):
        return False
    for part in thing:
        # Written out, as thousands of rows are asked.
        if not isinstance(part, int) or part is True or part is False or part < low or part > high:
            return False
    return True
