"""Vaults: edits of a thing, and what each lot of them comes to."""

from editlots.errors import BadBase, Full, NoEdit
from editlots.kinds import entry_by_hands
from editlots.lotwork import common, made_lot, MOST_EDITS
from editlots.records import (
    amounts_moved, amounts_of_record, barred_fields, check_record, made_fields, made_record, states_of_amounts,
    steps_between,
)
from editlots.shapes import whole_between


class Vault:
    """The edits of a thing with these fields, whose first record is told."""

    def __init__(self, fields, record):
        self._fields = made_fields(fields)
        self._first = made_record(fields, record)
        self._start = amounts_of_record(fields, record)
        self._steps = []
        self._made_on = []

    def edit(self, lot, record):
        """Make an edit that leads from the lot to the record, and return its number."""
        now = self.amounts(lot)
        check_record(self._fields, record)
        number = len(self._steps)
        if number == MOST_EDITS:
            raise Full(MOST_EDITS)
        self._steps.append(steps_between(self._fields, now, amounts_of_record(self._fields, record)))
        self._made_on.append(lot)
        return number

    def edits(self):
        """How many edits there are."""
        return len(self._steps)

    def steps_of(self, edit):
        """The steps of one edit."""
        self._check_edit(edit)
        return self._steps[edit]

    def made_on(self, edit):
        """The lot on which the edit was made."""
        self._check_edit(edit)
        return self._made_on[edit]

    def amounts(self, lot):
        """The first record's amounts, moved by the steps of all edits of the lot."""
        made_lot(len(self._steps), lot)
        return amounts_moved(self._fields, self._start, [self._steps[edit] for edit in lot])

    def record(self, lot):
        """The states that the lot comes to, None for barred fields."""
        return states_of_amounts(self._fields, self.amounts(lot))

    def barred(self, lot):
        """The fields that are barred at the lot."""
        return barred_fields(self._fields, self.amounts(lot))

    def merged(self, base, one, two):
        """What the tables of the kinds tell of a merge of the lots one and two over the lot base."""
        three = [self.record(lot) for lot in (base, one, two)]
        if base != common(one, two):
            raise BadBase(0)
        return tuple([entry_by_hands(kind, o, a, b) for kind, o, a, b in zip(self._fields, *three)])

    def fields(self):
        """The fields of the thing."""
        return self._fields

    def first(self):
        """The first record."""
        return self._first

    def _check_edit(self, edit):
        if not whole_between(edit, 0, len(self._steps) - 1):
            raise NoEdit(edit)
