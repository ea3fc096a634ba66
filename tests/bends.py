"""Values bent in one place: what a judge is handed that it may not let."""

KINDS = (None, True, False, "", "a", (), (0,), 0, 1)


def bends(thing):
    """All values that are the thing, bent in one place: of another kind, one more, left out, put to, exchanged."""
    found = [other for other in KINDS if repr(other) != repr(thing)]
    if type(thing) is int:
        found += [thing + 1, thing - 1, -thing, 2 * thing + 7, (thing,), str(thing)]
    if type(thing) is str:
        found += [thing + "s", thing.upper(), (thing,)]
    if type(thing) is tuple:
        found += bent_tuples(thing)
    return found


def bent_tuples(thing):
    """All tuples that are this one, bent in one place."""
    found = [thing + (other,) for other in KINDS] + [(other,) + thing for other in (None, 0, ())] + [(thing,)]
    for k, part in enumerate(thing):
        ahead, behind = thing[:k], thing[k + 1:]
        found += [ahead + behind, ahead + (part, part) + behind]
        found += [ahead + (bent,) + behind for bent in bends(part)]
    for k in range(len(thing)):
        for j in range(k + 1, len(thing)):
            found.append(thing[:k] + (thing[j],) + thing[k + 1:j] + (thing[k],) + thing[j + 1:])
    return found


def bent_calls(args):
    """All tuples of arguments of which one is bent in one place."""
    return [args[:k] + (bent,) + args[k + 1:] for k, arg in enumerate(args) for bent in bends(arg)]
