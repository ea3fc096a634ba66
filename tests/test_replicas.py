"""[49] to [51]: replicas, packets, and heads."""

import random
import time
import unittest

from editlots.errors import (
    BadFields, BadLot, BadName, BadPacket, BadRecord, Full, Missing, NoBranch, Unlike,
)
from editlots.replicas import Replica
from editlots.vault import Vault

from bends import bends
from branching import NAMES, NO_NAMES
from drawn import (
    K, ONE, PAIRS, random_fields, random_lot, random_record, reckoned, reckoned_states, reckoned_steps, wrong_records,
)
from helpers import Case, nested, ODD, outcome
from judging import amounts_fit

# No rising tuples of ids, whatever is known.
NO_IDS = (
    None, True, 0, "", "a", "ab", ("a",), ("a", 0), (0,), (None,), ((),), (("a",),), (("a", 0, 0),), ((0, "a"),),
    (("a", "0"),), (("a", True),), (("a", False),), (("a", None),), (("a", -1),), (("a", 400),), (("A", 0),), (("", 0),),
    ((0, 0),), (("a" * 13, 0),), (("a\n", 0),), ((("a",), 0),), (("a", (0,)),), (("a", 0), ("a", 0)), (("a", 1), ("a", 0)),
    (("b", 0), ("a", 5)), (("a", 0), ("b", 0), ("a", 1)), (("a", 0), None), (("a", 0), ("a",)), (("a", 0), ("b", True)),
    (("\u00e9", 0),), (("a\u00b2", 0),), (("a", 10 ** 999),), (("a", 0),) * 400, (nested(48),), ((nested(47), 0),),
)


def is_id(thing):
    """Whether it is an id."""
    if type(thing) is not tuple or len(thing) != 2 or type(thing[0]) is not str or type(thing[1]) is not int:
        return False
    hand, number = thing
    signs = "abcdefghijklmnopqrstuvwxyz0123456789"
    return 1 <= len(hand) <= 12 and all(sign in signs for sign in hand) and hand[0] not in signs[26:] and 0 <= number <= 399


def are_ids(thing):
    """Whether it is a rising tuple of ids."""
    if type(thing) is not tuple or not all(is_id(part) for part in thing):
        return False
    return all(thing[k] < thing[k + 1] for k in range(len(thing) - 1))


def wrong_packet(fields, thing):
    """What BadPacket tells of it, None for a packet."""
    if type(thing) is not tuple:
        return -1
    for index, part in enumerate(thing):
        if type(part) is not tuple or len(part) != 2 or not is_id(part[0]) or not amounts_fit(fields, part[1]):
            return index
        if index and not thing[index - 1][0] < part[0]:
            return index
    return None


def wrong_heads(thing):
    """What BadPacket tells of it, None for heads."""
    if type(thing) is not tuple:
        return -1
    for index, part in enumerate(thing):
        if type(part) is not tuple or len(part) != 2 or not is_id((part[0], 0)) or not are_ids(part[1]):
            return index
        if index and not thing[index - 1][0] < part[0]:
            return index
    return None


def kept(replica):
    """All that a replica keeps."""
    return (replica.known(), replica.packet(()), replica.heads())


def pair_of_the_document():
    """The two replicas of the document's example, with an edit each."""
    one, two = Replica("a", (K,), (0,)), Replica("b", (K,), (0,))
    one.edit((), (1,))
    two.edit((), (2,))
    return one, two


def met_replica():
    """A replica of the hand b with edits of three hands, and two heads."""
    replica = Replica("b", (K, PAIRS), (0, 0))
    other, third = Replica("a", (K, PAIRS), (0, 0)), Replica("c1", (K, PAIRS), (0, 0))
    replica.edit((), (1, 1))
    replica.edit((("b", 0),), (2, 3))
    other.take(replica.packet(()))
    other.edit((("b", 1),), (1, 2))
    third.take(other.packet(()))
    third.edit(other.known(), (0, 0))
    replica.take(third.packet(()))
    replica.set_head("main", (("a", 0), ("b", 0)))
    replica.set_head("x", ())
    return replica


class ReplicaCase(Case):

    def keeps(self, replica, error, what, call, *args):
        """The call is refused, and the replica keeps what it kept."""
        before = kept(replica)
        self.refuses(error, what, call, *args)
        self.assertEqual(kept(replica), before)

    def refuses_lots(self, replica, call):
        """A call with a lot of met_replica as its only argument refuses all that is none."""
        for thing in NO_IDS + ODD:
            if not are_ids(thing):
                self.keeps(replica, BadLot, -1, call, thing)
        for lot, what in (
            ((("a", 1),), ("a", 1)), ((("a", 0), ("b", 2), ("d", 0)), ("b", 2)), ((("a0", 0),), ("a0", 0)),
            ((("b", 0), ("b", 399)), ("b", 399)), ((("a", 0), ("c", 0), ("c1", 0)), ("c", 0)),
        ):
            self.keeps(replica, Missing, what, call, lot)
        # Its form is asked ahead of what is known.
        self.keeps(replica, BadLot, -1, call, (("d", 0), ("a", 0)))
        self.keeps(replica, BadLot, -1, call, (("d", 0), None))


class TestMaking(ReplicaCase):

    def test_new_replica(self):
        replica = Replica("a", (K, ONE), (2, 0))
        self.assertEqual((replica.known(), replica.packet(()), replica.heads()), ((), (), ()))
        self.assertEqual((replica.amounts(()), replica.record(()), replica.barred(())), (((3,), ()), (2, 0), ()))

    def test_hands(self):
        for hand in NAMES:
            self.assertEqual(Replica(hand, (K,), (0,)).edit((), (0,)), (hand, 0))
        for thing in NO_NAMES + ODD:
            if thing not in ("a", "first"):
                self.refuses(BadName, thing, Replica, thing, (K,), (0,))
                self.refuses(BadName, thing, Replica, thing, None, None)

    def test_no_fields_and_no_records(self):
        for thing in (None, True, 0, "", (), (K,) * 7):
            self.refuses(BadFields, -1, Replica, "a", thing, None)
        self.refuses(BadFields, 1, Replica, "a", (K, None, None), None)
        for thing, what in wrong_records((K, PAIRS)):
            self.refuses(BadRecord, what, Replica, "a", (K, PAIRS), thing)

    def test_by_name(self):
        one, two = Replica(record=(0,), fields=(K,), hand="a"), Replica("b", (K,), (0,))
        self.assertEqual(one.edit(record=(1,), lot=()), ("a", 0))
        lot = (("a", 0),)
        self.assertEqual((one.amounts(lot=lot), one.record(lot=lot), one.barred(lot=lot)), (((1,),), (1,), ()))
        self.assertEqual(two.take(packet=one.packet(ids=())), lot)
        self.assertIsNone(one.set_head(lot=lot, name="main"))
        self.assertIsNone(two.hear(heads=one.heads()))
        self.assertEqual(two.head(name="main"), lot)


class TestExample(ReplicaCase):

    def test_example(self):
        kind = ((4,), ((0,), (1,), (3,)))
        first, second = Replica("a", (kind,), (0,)), Replica("b", (kind,), (0,))
        self.assertEqual(first.edit((), (1,)), ("a", 0))
        self.assertEqual(second.edit((), (2,)), ("b", 0))
        packet = second.packet(())
        self.assertEqual(packet, ((("b", 0), ((3,),)),))
        self.assertEqual(first.take(packet), (("b", 0),))
        self.assertEqual(first.take(packet), ())
        self.assertEqual(first.record((("a", 0), ("b", 0))), (0,))


class TestEdits(ReplicaCase):

    def test_beside_a_vault(self):
        # One replica alone is a vault with other numbers.
        source = random.Random(49)
        barred = 0
        for _ in range(30):
            fields = random_fields(source, source.randrange(1, 4)) + (K,)
            first = random_record(source, fields)
            vault, replica = Vault(fields, first), Replica("h", fields, first)
            for number in range(15):
                lot, record = random_lot(source, range(number)), random_record(source, fields)
                ids = tuple(("h", edit) for edit in lot)
                self.assertEqual(replica.amounts(ids), vault.amounts(lot))
                self.assertEqual(replica.record(ids), vault.record(lot))
                self.assertEqual(replica.barred(ids), vault.barred(lot))
                barred += vault.barred(lot) != ()
                self.assertEqual(replica.edit(ids, record), ("h", vault.edit(lot, record)))
                self.assertEqual(replica.known(), tuple(("h", k) for k in range(number + 1)))
                self.assertEqual(replica.packet(ids), tuple(
                    (("h", k), vault.steps_of(k)) for k in range(number + 1) if k not in lot
                ))
        self.assertGreater(barred, 50)

    def test_lots_of_many_hands(self):
        source = random.Random(50)
        replica = met_replica()
        steps = dict(replica.packet(()))
        self.assertEqual(replica.known(), (("a", 0), ("b", 0), ("b", 1), ("c1", 0)))
        for _ in range(60):
            lot = random_lot(source, replica.known())
            amounts = reckoned((K, PAIRS), (0, 0), [steps[one] for one in lot])
            states = reckoned_states((K, PAIRS), amounts)
            self.assertEqual((replica.amounts(lot), replica.record(lot)), (amounts, states))
            self.assertEqual(replica.barred(lot), tuple(k for k, state in enumerate(states) if state is None))

    def test_edit_on_barred_fields(self):
        one, two = pair_of_the_document()
        one.take(two.packet(()))
        self.assertEqual(one.edit((("a", 0),), (2,)), ("a", 1))
        self.assertEqual((one.barred((("a", 1),)), one.record((("a", 1),))), ((0,), (None,)))
        self.assertEqual(one.edit((("a", 1),), (1,)), ("a", 2))
        self.assertEqual(dict(one.packet(()))[("a", 2)], ((3,),))
        self.assertEqual(one.edit((("a", 1), ("a", 2)), (1,)), ("a", 3))
        self.assertEqual(dict(one.packet(()))[("a", 3)], ((0,),))

    def test_refused(self):
        replica = met_replica()
        self.refuses_lots(replica, lambda lot: replica.edit(lot, (0, 0)))
        self.refuses_lots(replica, lambda lot: replica.edit(lot, None))
        for thing, what in wrong_records((K, PAIRS)):
            self.keeps(replica, BadRecord, what, replica.edit, (("a", 0),), thing)
        for call in (replica.amounts, replica.record, replica.barred):
            self.refuses_lots(replica, call)

    def test_full(self):
        replica, other = Replica("a", (K,), (0,)), Replica("b", (K,), (0,))
        replica.take(((("b", 0), ((1,),)), (("b", 399), ((2,),))))
        for number in range(400):
            self.assertEqual(replica.edit((), (number % 3,)), ("a", number))
        self.keeps(replica, Full, 400, replica.edit, (), (0,))
        self.keeps(replica, Full, 400, replica.edit, replica.known(), (0,))
        self.keeps(replica, BadLot, -1, replica.edit, None, (0,))
        self.keeps(replica, Missing, ("b", 1), replica.edit, (("b", 1),), None)
        self.keeps(replica, BadRecord, 0, replica.edit, (), (3,))
        self.assertEqual(len(replica.known()), 402)
        # What others made does not count.
        other.take(replica.packet((("b", 0), ("b", 399))))
        self.assertEqual(other.edit(other.known(), (0,)), ("b", 0))

    def test_numbers_go_on_behind_a_packet(self):
        one, two = pair_of_the_document()
        one.take(two.packet(()))
        self.assertEqual([one.edit((), (0,)), two.edit((), (0,)), one.edit((), (0,))], [("a", 1), ("b", 1), ("a", 2)])


class TestPackets(ReplicaCase):

    def test_packets_lack_what_is_asked(self):
        source = random.Random(51)
        replica = met_replica()
        whole = replica.packet(())
        self.assertEqual(tuple(one for one, _ in whole), replica.known())
        others = sorted(set(replica.known()) | {("a", 1), ("zz", 399), ("b", 399), ("a0", 0)})
        for _ in range(100):
            ids = random_lot(source, others)
            self.assertEqual(replica.packet(ids), tuple(pair for pair in whole if pair[0] not in ids))
        self.assertEqual(replica.packet(replica.known()), ())

    def test_packet_refuses(self):
        replica = met_replica()
        for thing in NO_IDS + ODD:
            if not are_ids(thing):
                self.keeps(replica, BadLot, -1, replica.packet, thing)

    def test_take_in_parts_twice_and_in_any_order(self):
        source = random.Random(52)
        whole = met_replica().packet(())
        for _ in range(60):
            replica = Replica("z", (K, PAIRS), (0, 0))
            told = []
            while len(replica.known()) < len(whole):
                part = random_lot(source, whole)
                new = replica.take(part)
                self.assertEqual(new, tuple(one for one, _ in part if one not in told))
                told += new
                self.assertEqual(replica.known(), tuple(sorted(told)))
            self.assertEqual(replica.packet(()), whole)
            self.assertEqual(replica.take(whole), ())
            self.assertEqual(kept(replica), (tuple(one for one, _ in whole), whole, ()))

    def test_steps_come_without_what_they_were_made_on(self):
        replica = Replica("z", (K,), (0,))
        self.assertEqual(replica.take(((("a", 7), ((2,),)),)), (("a", 7),))
        self.assertEqual((replica.record((("a", 7),)), replica.barred((("a", 7),))), ((None,), (0,)))

    def test_no_packets(self):
        replica = met_replica()
        for thing in ODD + NO_IDS:
            what = wrong_packet((K, PAIRS), thing)
            if what is not None:
                self.keeps(replica, BadPacket, what, replica.take, thing)
        good = tuple((("d", k), ((k % 4,), (k % 2, k % 3))) for k in range(4))
        for at in range(4):
            for wrong in (
                None, True, 0, (), ("d", 0), (("d", 0),), (("d", 9), ((0,), (0, 0)), ()), (("d", 400), ((0,), (0, 0))),
                (("d", True), ((0,), (0, 0))), (("D", 9), ((0,), (0, 0))), (("d", 9), ((4,), (0, 0))), (("d", 9),
                ((0,), (0, 3))),
                (("d", 9), ((0,),)), (("d", 9), ((0,), (0, 0), ())), (("d", 9), ((True,), (0, 0))), (("d", 9), ((0,), None)),
                (("d", 9), None), (None, ((0,), (0, 0))), (9, ((0,), (0, 0))), (("d", 9), (0, (0, 0))),
            ):
                self.keeps(replica, BadPacket, at, replica.take, good[:at] + (wrong,) + good[at:])
            if at:
                self.keeps(replica, BadPacket, at, replica.take, good[:at] + good[at - 1:])
                self.keeps(replica, BadPacket, at, replica.take, good[:at] + ((("c", 399), ((0,), (0, 0))),))
        # Its form is asked ahead of what is known otherwise.
        self.keeps(replica, BadPacket, 1, replica.take, ((("b", 7), ((0,), (0, 0))), None))

    def test_unlike(self):
        replica = met_replica()
        whole = replica.packet(())
        for at, (one, steps) in enumerate(whole):
            other = (((steps[0][0] + 1) % 4,), steps[1])
            self.keeps(replica, Unlike, one, replica.take, ((one, other),))
            self.keeps(replica, Unlike, one, replica.take, whole[:at] + ((one, other),) + whole[at + 1:])
            # The first one that is wrong is told, and the new ones are not heard.
            new = ((("a", 399), steps), (("zz", 0), steps))
            self.keeps(replica, Unlike, one, replica.take, tuple(sorted(((one, other),) + new)))
        nought = ((0,), (0, 0))
        self.keeps(replica, Unlike, ("b", 2), replica.take, ((("b", 2), nought),))
        self.keeps(replica, Unlike, ("b", 399), replica.take, ((("a", 5), nought), (("b", 399), nought), (("c", 0), nought)))
        self.keeps(replica, Unlike, ("b", 2), replica.take, ((("b", 2), nought), (("c1", 0), nought)))
        self.assertEqual(replica.take(((("b", 0), dict(whole)[("b", 0)]), (("bb", 0), nought))), (("bb", 0),))

    def test_bent_packets(self):
        packet = met_replica().packet(())[:2]
        for bent in bends(packet):
            replica = Replica("b", (K, PAIRS), (0, 0))
            what = wrong_packet((K, PAIRS), bent)
            if what is not None:
                self.keeps(replica, BadPacket, what, replica.take, bent)
                continue
            own = [one for one, _ in bent if one[0] == "b"]
            if own:
                self.keeps(replica, Unlike, own[0], replica.take, bent)
            else:
                self.assertEqual(replica.take(bent), tuple(one for one, _ in bent))
                self.assertEqual(replica.packet(()), bent)


class TestHeads(ReplicaCase):

    def test_set_head(self):
        replica = met_replica()
        self.assertEqual(replica.heads(), (("main", (("a", 0), ("b", 0))), ("x", ())))
        self.assertIsNone(replica.set_head("main", (("c1", 0),)))
        self.assertIsNone(replica.set_head("gap", replica.known()))
        self.assertEqual(replica.head("main"), (("c1", 0),))
        self.assertEqual(replica.heads(), (("gap", replica.known()), ("main", (("c1", 0),)), ("x", ())))

    def test_no_heads(self):
        replica = met_replica()
        for thing in ("y", "mai", "b") + NO_NAMES + ODD:
            self.keeps(replica, NoBranch, thing, replica.head, thing)
        for thing in NO_NAMES:
            self.keeps(replica, BadName, thing, replica.set_head, thing, ())
            self.keeps(replica, BadName, thing, replica.set_head, thing, None)
        self.refuses_lots(replica, lambda lot: replica.set_head("main", lot))
        self.refuses_lots(replica, lambda lot: replica.set_head("new", lot))

    def test_hear_joins(self):
        replica = met_replica()
        a, b, b1, c = replica.known()
        self.assertIsNone(replica.hear((("main", (b1,)), ("new", (c,)), ("none", ()), ("x", ()))))
        heads = (("main", (a, b, b1)), ("new", (c,)), ("none", ()), ("x", ()))
        self.assertEqual(replica.heads(), heads)
        for told in ((), heads, (("main", ()),), (("main", (b,)), ("x", ())), (("new", (c,)),)):
            replica.hear(told)
            self.assertEqual(replica.heads(), heads)
        replica.hear((("new", (a,)),))
        self.assertEqual(replica.head("new"), (a, c))

    def test_hear_refuses(self):
        replica = met_replica()
        a, b, b1, c = replica.known()
        good = (("k", (a,)), ("m", (b, c)), ("p", ()))
        for thing in ODD + NO_IDS:
            what = wrong_heads(thing)
            if what is not None:
                self.keeps(replica, BadPacket, what, replica.hear, thing)
        for at in range(3):
            for wrong in NO_IDS:
                self.keeps(replica, BadPacket, at, replica.hear, good[:at] + (("o", wrong),) + good[at:])
            for wrong in NO_NAMES:
                self.keeps(replica, BadPacket, at, replica.hear, good[:at] + ((wrong, ()),) + good[at:])
            for wrong in (None, 0, (), ("o",), ("o", (), ()), "oo", ((), "o")):
                self.keeps(replica, BadPacket, at, replica.hear, good[:at] + (wrong,) + good[at:])
            if at:
                self.keeps(replica, BadPacket, at, replica.hear, good[:at] + good[at - 1:])
                self.keeps(replica, BadPacket, at, replica.hear, good[:at] + (("a", ()),))

    def test_hear_misses(self):
        replica = met_replica()
        a, b, b1, c = replica.known()
        strange, other = ("b", 2), ("a", 1)
        self.keeps(replica, Missing, strange, replica.hear, (("main", (b1, strange)),))
        # Head by head, not by the least id; and no head is heard.
        self.keeps(replica, Missing, strange, replica.hear, (("main", (a, b1)), ("n", (strange,)), ("o", (other,))))
        self.keeps(replica, Missing, other, replica.hear, (("main", (other, strange)), ("n", (strange,))))
        self.keeps(replica, BadPacket, 1, replica.hear, (("main", (strange,)), ("n", None)))

    def test_bent_heads(self):
        heads = (("main", (("a", 0), ("b", 1))), ("x", ()))
        for bent in bends(heads):
            replica = met_replica()
            what = wrong_heads(bent)
            if what is not None:
                self.keeps(replica, BadPacket, what, replica.hear, bent)
                continue
            missing = [one for _, lot in bent for one in lot if one not in replica.known()]
            if missing:
                self.keeps(replica, Missing, missing[0], replica.hear, bent)
                continue
            wanted = dict(replica.heads())
            for name, lot in bent:
                wanted[name] = tuple(sorted(set(wanted.get(name, ())) | set(lot)))
            replica.hear(bent)
            self.assertEqual(replica.heads(), tuple(sorted(wanted.items())))


class TestMeetings(ReplicaCase):

    def meet(self, source, fields, first, hands, rounds):
        """Replicas that edit, send parts of packets, and heads, in a drawn order; then all that they made."""
        replicas = [Replica(hand, fields, first) for hand in hands]
        made = {}
        for _ in range(rounds):
            one, two = source.choice(replicas), source.choice(replicas)
            deed = source.randrange(4)
            if deed == 0:
                lot, record = random_lot(source, one.known()), random_record(source, fields)
                steps = reckoned_steps(fields, reckoned(fields, first, [made[told] for told in lot]), record)
                made[one.edit(lot, record)] = steps
            elif deed == 1:
                one.set_head(source.choice("pqr"), random_lot(source, one.known()))
            elif deed == 2:
                part = random_lot(source, one.packet(random_lot(source, two.known())))
                new = tuple(pair[0] for pair in part if pair[0] not in two.known())
                self.assertEqual(two.take(part), new)
            else:
                self.check_hear(one.heads(), two)
        return replicas, made

    def check_hear(self, heads, two):
        """What is heard of heads is what sets tell, or the first id that is missing."""
        missing = [told for _, lot in heads for told in lot if told not in two.known()]
        if missing:
            self.keeps(two, Missing, missing[0], two.hear, heads)
            return
        before = dict(two.heads())
        two.hear(heads)
        for name, lot in heads:
            before[name] = tuple(sorted(set(before.get(name, ())) | set(lot)))
        self.assertEqual(two.heads(), tuple(sorted(before.items())))

    def test_until_all_know_the_same(self):
        source = random.Random(53)
        for hands in (("a", "b"), ("a", "b", "c"), ("a", "a1", "b", "main", "x9")):
            for _ in range(8):
                fields = random_fields(source, source.randrange(1, 3)) + (K,)
                first = random_record(source, fields)
                replicas, made = self.meet(source, fields, first, hands, 120)
                # Round and round, each to the next one, twice.
                for _ in range(2 * len(replicas)):
                    for one, two in zip(replicas, replicas[1:] + replicas[:1]):
                        two.take(one.packet(two.known()))
                        two.take(one.packet(()))
                        two.hear(one.heads())
                        two.hear(one.heads())
                self.check_alike(source, fields, first, replicas, made)

    def check_alike(self, source, fields, first, replicas, made):
        """All replicas know all that was made, and tell the same of each lot."""
        whole = tuple(sorted(made.items()))
        for replica in replicas:
            self.assertEqual(replica.known(), tuple(sorted(made)))
            self.assertEqual(replica.packet(()), whole)
            self.assertEqual(replica.heads(), replicas[0].heads())
        for lot in [random_lot(source, made) for _ in range(10)] + [lot for _, lot in replicas[0].heads()]:
            amounts = reckoned(fields, first, [made[one] for one in lot])
            for replica in replicas:
                self.assertEqual(replica.amounts(lot), amounts)
                self.assertEqual(replica.record(lot), reckoned_states(fields, amounts))


class TestQuickly(ReplicaCase):

    def test_many_hundreds_of_edits(self):
        source = random.Random(54)
        fields = (K, PAIRS)
        replicas = [Replica(hand, fields, (0, 0)) for hand in ("a", "longhandname", "z")]
        start = time.process_time()
        for replica in replicas:
            for _ in range(400):
                replica.edit(replica.known()[-20:], random_record(source, fields))
        for replica in replicas:
            for other in replicas:
                replica.take(other.packet(replica.known()))
        whole = replicas[0].packet(())
        known = replicas[0].known()
        self.assertEqual(len(known), 1200)
        for replica in replicas:
            self.assertEqual(replica.packet(()), whole)
        one = replicas[1]
        one.set_head("main", known[::3])
        for _ in range(500):
            one.record(known)
            one.packet(known[::2])
            one.hear((("main", known[::4]),))
        for _ in range(100):
            one.take(whole)
        for _ in range(3000):
            one.known()
            one.record(known[-30:])
            one.head("main")
            one.heads()
            one.packet(known[:-3])
        self.assertLess(time.process_time() - start, 20)


if __name__ == "__main__":
    unittest.main()
