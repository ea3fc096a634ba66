"""[43] to [46]: vaults, what their lots come to, and merges."""

import random
import time
import unittest

from editlots.errors import BadBase, BadFields, BadLot, BadRecord, Full, NoEdit
from editlots.kinds import table_of
from editlots.lotwork import common, joined
from editlots.vault import Vault

from drawn import (
    K, NO_LOTS, ONE, PAIRS, random_fields, random_lot, random_record, random_vault, reckoned, reckoned_states,
    reckoned_steps, wrong_records,
)
from helpers import Case, ODD

WIDE = ((2,) * 12, tuple(tuple(int(j == k) for j in range(12)) for k in range(12)))


def kept(vault):
    """All that a vault keeps."""
    edits = range(vault.edits())
    return (vault.fields(), vault.first(), [(vault.steps_of(edit), vault.made_on(edit)) for edit in edits])


def lots_of(source, vault, many):
    """Drawn lots of the vault, and the empty and the full one."""
    edits = range(vault.edits())
    return [(), tuple(edits)] + [random_lot(source, edits) for _ in range(many)]


class VaultCase(Case):

    def keeps(self, vault, error, what, call, *args):
        """The call is refused, and the vault keeps what it kept."""
        before = kept(vault)
        self.refuses(error, what, call, *args)
        self.assertEqual(kept(vault), before)

    def refuses_lots(self, vault, call):
        """A call with a lot as its only argument refuses all that is no lot of the vault."""
        many = vault.edits()
        for thing in NO_LOTS + ODD[:12]:
            if thing != ():
                self.keeps(vault, BadLot, -1, call, thing)
        self.keeps(vault, BadLot, many, call, (many,))
        self.keeps(vault, BadLot, many, call, (0, many, many + 1))
        self.keeps(vault, BadLot, 399, call, (0, 399))
        self.keeps(vault, BadLot, -1, call, (many, 0))


class TestMaking(VaultCase):

    def test_new_vault(self):
        fields = (K, ONE, PAIRS)
        vault = Vault(fields, (2, 0, 3))
        self.assertEqual((vault.edits(), vault.fields(), vault.first()), (0, fields, (2, 0, 3)))
        self.assertEqual(vault.amounts(()), ((3,), (), (1, 2)))
        self.assertEqual((vault.record(()), vault.barred(())), ((2, 0, 3), ()))
        self.assertEqual(vault.merged((), (), ()), (2, 0, 3))

    def test_by_name(self):
        vault = Vault(record=(0,), fields=(K,))
        self.assertEqual(vault.edit(record=(1,), lot=()), 0)
        self.assertEqual(vault.steps_of(edit=0), ((1,),))
        self.assertEqual(vault.made_on(edit=0), ())
        self.assertEqual(vault.amounts(lot=(0,)), ((1,),))
        self.assertEqual((vault.record(lot=(0,)), vault.barred(lot=(0,))), ((1,), ()))
        self.assertEqual(vault.merged(two=(0,), one=(), base=()), (1,))

    def test_no_fields(self):
        for thing in (None, True, 0, "", (), K, (K,) * 7, (K,) * 6 + (None,) * 2):
            what = 0 if thing is K else -1
            self.refuses(BadFields, what, Vault, thing, (0,))
            # The fields are asked ahead of the record.
            self.refuses(BadFields, what, Vault, thing, None)
        for at in range(3):
            self.refuses(BadFields, at, Vault, (K,) * at + (((1,), ((0,),)),) + (K,) * (2 - at), None)

    def test_no_record(self):
        for fields in ((K,), (K, ONE, PAIRS)):
            for thing, what in wrong_records(fields):
                self.refuses(BadRecord, what, Vault, fields, thing)

    def test_two_vaults_have_nothing_in_common(self):
        one, two = Vault((K,), (0,)), Vault((K,), (0,))
        one.edit((), (1,))
        self.assertEqual((one.edits(), two.edits()), (1, 0))
        self.refuses(BadLot, 0, two.record, (0,))


class TestExample(VaultCase):

    def test_example(self):
        vault = Vault((((4,), ((0,), (1,), (3,))),), (0,))
        self.assertEqual((vault.edit((), (1,)), vault.steps_of(0)), (0, ((1,),)))
        self.assertEqual((vault.edit((), (2,)), vault.steps_of(1)), (1, ((3,),)))
        self.assertEqual(vault.record((0, 1)), (0,))
        self.assertEqual((vault.edit((0,), (2,)), vault.steps_of(2)), (2, ((2,),)))
        self.assertEqual(vault.record((0, 2)), (2,))
        self.assertEqual((vault.record((2,)), vault.barred((2,))), ((None,), (0,)))
        self.assertEqual((vault.edit((2,), (1,)), vault.steps_of(3)), (3, ((3,),)))
        self.assertEqual(vault.merged((), (0,), (1,)), (0,))
        self.assertEqual(vault.merged((), (0,), (2,)), (None,))
        self.assertEqual([vault.made_on(edit) for edit in range(4)], [(), (), (0,), (2,)])


class TestEdits(VaultCase):

    def test_steps_beside_a_reckoning(self):
        source = random.Random(43)
        barred = 0
        for _ in range(60):
            fields = random_fields(source, source.randrange(1, 7))
            first = random_record(source, fields)
            vault = Vault(fields, first)
            made = []
            for number in range(12):
                lot, record = random_lot(source, range(number)), random_record(source, fields)
                amounts = reckoned(fields, first, [made[edit][0] for edit in lot])
                barred += None in reckoned_states(fields, amounts)
                self.assertEqual(vault.edit(lot, record), number)
                made.append((reckoned_steps(fields, amounts, record), lot))
                self.assertEqual(vault.record(joined(lot, (number,))), record)
                # None of the elder ones has changed.
                self.assertEqual(kept(vault), (fields, first, made))
            self.assertEqual(vault.edits(), 12)
        self.assertGreater(barred, 100)

    def test_edit_to_the_record_that_is_there(self):
        vault = Vault((K, PAIRS), (1, 2))
        self.assertEqual(vault.edit((), (1, 2)), 0)
        self.assertEqual(vault.steps_of(0), ((0,), (0, 0)))
        self.assertEqual(vault.edit((0,), (1, 2)), 1)
        self.assertEqual((vault.made_on(1), vault.record((0, 1)), vault.record((1,))), ((0,), (1, 2), (1, 2)))

    def test_edit_on_barred_fields(self):
        vault = Vault((K, K), (0, 0))
        vault.edit((), (1, 0))
        vault.edit((), (1, 1))
        self.assertEqual((vault.amounts((0, 1)), vault.barred((0, 1))), (((2,), (1,)), (0,)))
        self.assertEqual(vault.edit((0, 1), (2, 1)), 2)
        self.assertEqual(vault.steps_of(2), ((1,), (0,)))
        self.assertEqual(vault.record((0, 1, 2)), (2, 1))

    def test_full(self):
        vault = Vault((K,), (0,))
        for number in range(400):
            self.assertEqual(vault.edit(tuple(range(number)), (number % 3,)), number)
        self.assertEqual(vault.edits(), 400)
        self.keeps(vault, Full, 400, vault.edit, (), (0,))
        self.keeps(vault, Full, 400, vault.edit, tuple(range(400)), (0,))
        # The lot and the record are asked ahead of it, the lot first.
        self.keeps(vault, BadLot, -1, vault.edit, (400,), (0,))
        self.keeps(vault, BadLot, -1, vault.edit, (0, 0), (3,))
        self.keeps(vault, BadRecord, 0, vault.edit, (399,), (3,))
        self.keeps(vault, BadRecord, -1, vault.edit, (), ())
        self.assertEqual((vault.steps_of(398), vault.steps_of(399)), (((2,),), ((1,),)))
        self.assertEqual(vault.record(tuple(range(400))), (0,))

    def test_wrong_lots_and_records(self):
        source = random.Random(44)
        for fields in ((K,), (K, ONE, PAIRS)):
            vault = random_vault(source, fields, 5)
            record = vault.first()
            self.refuses_lots(vault, lambda lot: vault.edit(lot, record))
            # With a wrong record, too.
            self.refuses_lots(vault, lambda lot: vault.edit(lot, None))
            for thing, what in wrong_records(fields):
                self.keeps(vault, BadRecord, what, vault.edit, (0, 4), thing)

    def test_no_edit(self):
        for many in (0, 1, 5):
            vault = random_vault(random.Random(many), (K,), many)
            for thing in (many, many + 1, 400, -1, None, True, False, "0", (), (0,), ((0,),), 10 ** 999, -(10 ** 999)):
                self.keeps(vault, NoEdit, thing, vault.steps_of, thing)
                self.keeps(vault, NoEdit, thing, vault.made_on, thing)

    def test_great_sizes(self):
        great = 10 ** 300
        vault = Vault((((great,), ((0,), (great - 1,), (5,))),), (1,))
        self.assertEqual(vault.steps_of(vault.edit((), (2,))), ((6,),))
        self.assertEqual(vault.steps_of(vault.edit((0,), (0,))), ((great - 5,),))
        self.assertEqual(vault.amounts((1,)), ((great - 6,),))
        self.assertEqual(vault.record((0, 1)), (0,))


class TestLots(VaultCase):

    def test_lots_beside_a_reckoning(self):
        source = random.Random(45)
        for _ in range(60):
            fields = random_fields(source, source.randrange(1, 7))
            vault = random_vault(source, fields, source.randrange(12))
            for lot in lots_of(source, vault, 12):
                amounts = reckoned(fields, vault.first(), [vault.steps_of(edit) for edit in reversed(lot)])
                states = reckoned_states(fields, amounts)
                self.assertEqual(vault.amounts(lot), amounts)
                self.assertEqual(vault.record(lot), states)
                self.assertEqual(vault.barred(lot), tuple(k for k, state in enumerate(states) if state is None))

    def test_lots_without_what_they_were_made_on(self):
        vault = Vault((K,), (0,))
        vault.edit((), (1,))
        vault.edit((0,), (0,))
        vault.edit((0, 1), (2,))
        self.assertEqual([vault.record(lot) for lot in ((1,), (2,), (1, 2), (0, 2))], [(2,), (2,), (None,), (0,)])

    def test_no_lots(self):
        vault = random_vault(random.Random(46), (K, PAIRS), 5)
        for call in (vault.amounts, vault.record, vault.barred):
            self.refuses_lots(vault, call)
        empty = Vault((K,), (0,))
        for call in (empty.amounts, empty.record, empty.barred):
            self.keeps(empty, BadLot, 0, call, (0,))
            self.keeps(empty, BadLot, -1, call, (0, 0))

    def test_one_lot_has_one_record(self):
        # However it is reached: by edits, merges over any base, picking and taking out.
        source = random.Random(47)
        vault = random_vault(source, (K, PAIRS), 8)
        told = {lot: vault.record(lot) for lot in lots_of(source, vault, 200)}
        for _ in range(20):
            vault.edit(random_lot(source, range(vault.edits())), random_record(source, (K, PAIRS)))
            for lot, record in told.items():
                self.assertEqual(vault.record(lot), record)


class TestMerged(VaultCase):

    def test_beside_the_tables(self):
        source = random.Random(48)
        told, barred, gaps = 0, 0, 0
        for _ in range(80):
            fields = random_fields(source, source.randrange(1, 4)) + (K, PAIRS)
            tables = [table_of(kind) for kind in fields]
            vault = random_vault(source, fields, 8)
            for one in lots_of(source, vault, 20):
                two = random_lot(source, range(8))
                base = common(one, two)
                three = [vault.record(lot) for lot in (base, one, two)]
                record = vault.record(joined(one, two))
                found = vault.merged(base, one, two)
                self.assertEqual(len(found), len(fields))
                for field, state in enumerate(found):
                    o, a, b = (states[field] for states in three)
                    if None in (o, a, b):
                        self.assertIsNone(state)
                        barred += 1
                        continue
                    self.assertEqual(state, tables[field][o][a][b])
                    if state is None:
                        gaps += 1
                    else:
                        self.assertEqual(state, record[field])
                        told += 1
        self.assertGreater(min(told, barred, gaps), 100)

    def test_a_barred_side_tells_nothing(self):
        # The joined lot has a state, but the tables cannot tell it.
        vault = Vault((K,), (0,))
        vault.edit((), (1,))
        vault.edit((0,), (2,))
        self.assertEqual((vault.record((1,)), vault.record((0, 1))), ((None,), (2,)))
        self.assertEqual(vault.merged((), (0,), (1,)), (None,))
        self.assertEqual(vault.merged((), (1,), (0,)), (None,))
        self.assertEqual(vault.merged((1,), (1,), (1,)), (None,))
        self.assertEqual(vault.merged((1,), (0, 1), (1,)), (None,))

    def test_wrong_bases(self):
        vault = random_vault(random.Random(49), (K,), 4)
        lots = [tuple(k for k in range(4) if bits >> k & 1) for bits in range(16)]
        for one in lots:
            for two in lots:
                for base in lots:
                    if base == common(one, two):
                        self.assertEqual(len(vault.merged(base, one, two)), 1)
                    else:
                        self.keeps(vault, BadBase, 0, vault.merged, base, one, two)

    def test_no_lots(self):
        vault = random_vault(random.Random(50), (K,), 5)
        self.refuses_lots(vault, lambda lot: vault.merged(lot, (), ()))
        self.refuses_lots(vault, lambda lot: vault.merged((), lot, ()))
        self.refuses_lots(vault, lambda lot: vault.merged((), (), lot))

    def test_errors_in_order(self):
        vault = random_vault(random.Random(51), (K,), 5)
        self.keeps(vault, BadLot, 7, vault.merged, (7,), (8,), None)
        self.keeps(vault, BadLot, 8, vault.merged, (4,), (8,), None)
        self.keeps(vault, BadLot, -1, vault.merged, (4,), (0,), None)
        self.keeps(vault, BadLot, 9, vault.merged, (4,), (0,), (9,))
        self.keeps(vault, BadBase, 0, vault.merged, (4,), (0,), (1,))


class TestQuickly(VaultCase):

    def check(self, fields):
        """A vault of 400 edits answers thousands of questions within seconds."""
        source = random.Random(52)
        vault = Vault(fields, (0,) * len(fields))
        start = time.process_time()
        for number in range(400):
            vault.edit(random_lot(source, range(number)), random_record(source, fields))
        full = tuple(range(400))
        even, odd = full[::2], full[1::2]
        for _ in range(1000):
            vault.record(full)
            vault.barred(even)
            vault.merged((), even, odd)
        for _ in range(3000):
            vault.steps_of(399)
            vault.made_on(399)
            vault.record(full[:20])
        self.assertLess(time.process_time() - start, 15)

    def test_small_fields(self):
        self.check((K,))
        self.check((K, PAIRS))

    def test_great_fields(self):
        self.check((WIDE,) * 6)


if __name__ == "__main__":
    unittest.main()
