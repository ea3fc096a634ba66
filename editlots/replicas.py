"""Replicas: what one hand has made and heard, and the packets and heads that replicas send each other."""

from editlots.errors import BadLot, BadPacket, Full, Missing, Unlike
from editlots.lotwork import joined, lacking, LAST_EDIT, MOST_EDITS
from editlots.naming import check_name, head_of, is_name
from editlots.records import (
    amounts_fit, amounts_moved, amounts_of_record, barred_fields, check_record, made_fields, made_record,
    states_of_amounts, steps_between,
)
from editlots.shapes import tuple_between


class Replica:
    """The edits of a thing that one hand has made or heard, each under its id."""

    def __init__(self, hand, fields, record):
        check_name(hand)
        self._hand = hand
        self._fields = made_fields(fields)
        self._start = amounts_of_record(fields, made_record(fields, record))
        self._own = 0
        self._steps = {}
        self._known = ()
        self._heads = {}

    def edit(self, lot, record):
        """Make an edit that leads from the lot to the record, and return its id."""
        now = self.amounts(lot)
        check_record(self._fields, record)
        if self._own == MOST_EDITS:
            raise Full(MOST_EDITS)
        made = (self._hand, self._own)
        self._own += 1
        self._hear(((made, steps_between(self._fields, now, amounts_of_record(self._fields, record))),))
        return made

    def known(self):
        """All ids that were made here or heard, rising."""
        return self._known

    def amounts(self, lot):
        """The first record's amounts, moved by the steps of all ids of the lot."""
        self._check_lot(lot)
        return amounts_moved(self._fields, self._start, [self._steps[one] for one in lot])

    def record(self, lot):
        """The states that the lot comes to, None for barred fields."""
        return states_of_amounts(self._fields, self.amounts(lot))

    def barred(self, lot):
        """The fields that are barred at the lot."""
        return barred_fields(self._fields, self.amounts(lot))

    def packet(self, ids):
        """All known ids that are not among these, with their steps."""
        check_ids(ids)
        return tuple([(one, self._steps[one]) for one in lacking(self._known, ids)])

    def take(self, packet):
        """Hear all that the packet tells, and return the ids that were not known."""
        check_packet(self._fields, packet)
        for one, steps in packet:
            if one in self._steps:
                like = self._steps[one] == steps
            else:
                like = one[0] != self._hand
            if not like:
                raise Unlike(one)
        return self._hear([pair for pair in packet if pair[0] not in self._steps])

    def set_head(self, name, lot):
        """Give the head of this name the lot."""
        check_name(name)
        self._check_lot(lot)
        self._heads[name] = lot

    def head(self, name):
        """The lot of the head."""
        return head_of(self._heads, name)

    def heads(self):
        """The names and lots of all heads, rising by name."""
        return tuple([(name, self._heads[name]) for name in sorted(self._heads)])

    def hear(self, heads):
        """Join each head that is told to the own one of this name."""
        check_heads(heads)
        for _, lot in heads:
            self._check_known(lot)
        for name, lot in heads:
            self._heads[name] = joined(self._heads.get(name, ()), lot)

    def _check_lot(self, lot):
        """Refuse what is no lot of known ids."""
        check_ids(lot)
        self._check_known(lot)

    def _check_known(self, ids):
        """Refuse ids of which one is not known."""
        for one in ids:
            if one not in self._steps:
                raise Missing(one)

    def _hear(self, pairs):
        """Keep the ids, none of which is known, with their steps; returns these ids."""
        for one, steps in pairs:
            self._steps[one] = steps
        new = tuple([one for one, _ in pairs])
        self._known = joined(self._known, new)
        return new


def check_ids(thing):
    """Refuse what is no rising tuple of ids."""
    if not ids_rise(thing):
        raise BadLot(-1)


def check_packet(fields, thing):
    """Refuse what is no packet for these fields."""
    if not isinstance(thing, tuple):
        raise BadPacket(-1)
    ahead = ()
    for index, pair in enumerate(thing):
        if not tuple_between(pair, 2, 2):
            raise BadPacket(index)
        if not ids_rise((pair[0],)) or not amounts_fit(fields, pair[1]) or pair[0] <= ahead:
            raise BadPacket(index)
        ahead = pair[0]


def check_heads(thing):
    """Refuse what does not tell heads by rising names."""
    if not isinstance(thing, tuple):
        raise BadPacket(-1)
    ahead = ""
    for index, pair in enumerate(thing):
        if not tuple_between(pair, 2, 2):
            raise BadPacket(index)
        if not is_name(pair[0]) or not ids_rise(pair[1]) or pair[0] <= ahead:
            raise BadPacket(index)
        ahead = pair[0]


def ids_rise(thing):
    """Whether it is a rising tuple of ids."""
    if not isinstance(thing, tuple):
        return False
    # As if all ids of an empty hand stood ahead: no id of one is above these.
    hand = ""
    last = LAST_EDIT
    for part in thing:
        if not isinstance(part, tuple) or len(part) != 2:
            return False
        told, number = part
        # Written out, as each question to a replica asks this of all ids of a lot.
        if not isinstance(number, int) or number is True or number is False or number < 0 or number > LAST_EDIT:
            return False
        if told == hand:
            if number <= last:
                return False
        elif not is_name(told) or told < hand:
            return False
        hand = told
        last = number
    return True
