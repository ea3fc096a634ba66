"""The errors of the package. Each keeps what is refused, or where, in the attribute what."""


class Refused(ValueError):
    """The error that all others of the package stand under."""

    def __init__(self, what):
        self.what = what
        # The desk answers with the name of the class.
        self.called = self.__class__.__name__


class BadMany(Refused):
    """A number that is out of the limits, or none."""


class BadTable(Refused):
    """No table: -1 for its shape, else the first wrong place."""


class BadState(Refused):
    """No state."""


class BadNames(Refused):
    """No names."""


class TooMany(Refused):
    """More than there may be."""


class BadHistory(Refused):
    """No history: -1 for its shape, else the first wrong row."""


class BadBase(Refused):
    """A merge over a base that is not what both sides share."""


class Gaps(Refused):
    """A table with gaps, told by its first one."""


class Proof(Refused):
    """An order-proof table, where one that clashes is due."""


class NotProof(Refused):
    """A table that clashes, where an order-proof one is due."""


class BadClocks(Refused):
    """No clocks: -1 for what is no tuple, else the first wrong one."""


class BadRows(Refused):
    """No rows: -1 for their shape, else the first wrong one."""


class BadRow(Refused):
    """No row."""


class BadTold(Refused):
    """No told rows: -1 for their shape, else the first wrong one."""


class Can(Refused):
    """Told rows that an order-proof table tells, where others are due."""


class Fallen(Refused):
    """Told rows by which these two states fall together."""


class BadKind(Refused):
    """No kind: -1, 0 for its sizes, or 1 for its hands."""


class BadAmount(Refused):
    """No amount of the kind."""


class BadFields(Refused):
    """No fields: -1 for their shape, else the first wrong one."""


class BadRecord(Refused):
    """No record: -1 for its shape, else the first wrong field."""


class BadLot(Refused):
    """No lot: -1 for its shape, else the first edit that is not there."""


class Full(Refused):
    """No room for one more edit."""


class NoEdit(Refused):
    """Not the number of an edit."""


class BadName(Refused):
    """No name."""


class HasBranch(Refused):
    """A branch of this name is there already."""


class NoBranch(Refused):
    """No branch has this name."""


class HasEdit(Refused):
    """The head has this edit already."""


class LacksEdit(Refused):
    """The head has this edit not."""


class NothingBack(Refused):
    """There is no deed to undo."""


class NothingAgain(Refused):
    """There is no deed to do again."""


class Missing(Refused):
    """An edit that is not known."""


class BadPacket(Refused):
    """No packet: -1 for its shape, else the first wrong part."""


class Unlike(Refused):
    """An edit that is known otherwise."""


class BadParts(Refused):
    """No parts."""


class CleanWay(Refused):
    """There is a clean way, where none is due."""


class BadText(Refused):
    """A text that is wrong at this place; -1 for what is no text."""


class NoName(Refused):
    """A name that stands for nothing."""


class Twice(Refused):
    """A name that stands ahead already."""


class NoVariable(Refused):
    """A letter that no item of the rule has."""
