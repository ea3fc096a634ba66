"""[52] to [54]: parts of lots, clean ways, and what bars them."""

import itertools
import random
import time
import unittest

from editlots.errors import BadLot, BadParts, CleanWay
from editlots.kernel import blocked_right, way_right
from editlots.vault import Vault
from editlots.ways import blocked, clean_way, part_steps

from drawn import K, NO_LOTS, PAIRS, random_fields, random_lot, random_vault
from helpers import Case, nested, ODD, outcome

CALLS = (part_steps, clean_way, blocked)
TWELVE = ((12,), tuple((k,) for k in range(12)))


def clean(vault, lot, parts, stand):
    """Whether no field is barred at the lot joined with these parts."""
    whole = set(lot).union(*[parts[part] for part in stand])
    return vault.barred(tuple(sorted(whole))) == ()


def listed(vault, lot, parts):
    """All clean ways, and all stands that can be come to, out of a listing of all orders of the parts."""
    ways, stands = [], set()
    for order in itertools.permutations(range(len(parts))):
        reached = 0
        while reached <= len(order) and clean(vault, lot, parts, order[:reached]):
            stands.add(tuple(sorted(order[:reached])))
            reached += 1
        if reached > len(order):
            ways.append(order)
    return ways, tuple(sorted(stands))


def steps_told(vault, lot, parts):
    """The edits of each part that are not in the lot, with their steps."""
    return tuple(tuple((edit, vault.steps_of(edit)) for edit in part if edit not in lot) for part in parts)


def document_vault():
    """The vault of the document's examples."""
    vault = Vault((K,), (0,))
    vault.edit((), (1,))
    vault.edit((0,), (2,))
    return vault


class WayCase(Case):

    def check(self, vault, lot, parts):
        """The three functions tell what a listing tells, and what the judges let; whether there is a way."""
        ways, stands = listed(vault, lot, parts)
        return self.tell(vault, lot, parts, ways, stands)

    def tell(self, vault, lot, parts, ways, stands):
        steps = part_steps(vault, lot, parts)
        self.assertEqual(steps, steps_told(vault, lot, parts))
        way = clean_way(vault, lot, parts)
        paper = (vault.fields(), vault.amounts(lot), steps)
        if ways:
            self.assertIn(way, ways)
            self.assertIs(way_right(*paper, way), True)
            self.refuses(CleanWay, 0, blocked, vault, lot, parts)
        else:
            self.assertIsNone(way)
            self.assertEqual(blocked(vault, lot, parts), stands)
            self.assertIs(blocked_right(*paper, stands), True)
        self.assertEqual(clean_way(vault, lot, parts), way)
        return bool(ways)


class TestExamples(WayCase):

    def test_examples(self):
        vault = Vault((((4,), ((0,), (1,), (3,))),), (0,))
        self.assertEqual((vault.edit((), (1,)), vault.edit((0,), (2,))), (0, 1))
        self.assertEqual(clean_way(vault, (), ((0,), (1,))), (0, 1))
        self.assertEqual(part_steps(vault, (), ((0,), (1,))), (((0, ((1,),)),), ((1, ((2,),)),)))
        self.assertEqual(blocked(vault, (), ((1,),)), ((),))
        self.refuses(CleanWay, 0, blocked, vault, (), ((0,), (1,)))
        self.assertIsNone(clean_way(vault, (), ((1,),)))

    def test_by_name(self):
        vault = document_vault()
        self.assertEqual(part_steps(parts=((0, 1),), lot=(0,), vault=vault), (((1, ((2,),)),),))
        self.assertEqual(clean_way(parts=((0,), (1,)), lot=(), vault=vault), (0, 1))
        self.assertEqual(blocked(parts=((1,),), lot=(), vault=vault), ((),))


class TestParts(WayCase):

    def test_edits_of_the_lot_are_left_out(self):
        vault = random_vault(random.Random(52), (K, PAIRS), 6)
        told = {edit: vault.steps_of(edit) for edit in range(6)}
        self.assertEqual(
            part_steps(vault, (1, 3), ((0, 1, 2, 3), (3,), (), (1, 3), (3, 5))),
            (((0, told[0]), (2, told[2])), (), (), (), ((5, told[5]),)),
        )

    def test_parts_of_nothing(self):
        vault = document_vault()
        self.assertTrue(self.check(vault, (), ((),)))
        self.assertTrue(self.check(vault, (0, 1), ((), (0,), (1,), (0, 1))))
        self.assertFalse(self.check(vault, (1,), ((),)))
        self.assertFalse(self.check(vault, (), ((), (1,), ())))
        self.assertEqual(blocked(vault, (), ((), (1,), ())), ((), (0,), (0, 2), (2,)))
        self.assertEqual(part_steps(vault, (), ((),) * 8), ((),) * 8)
        self.assertEqual(sorted(clean_way(vault, (), ((),) * 8)), list(range(8)))

    def test_stand_of_nothing_is_not_clean(self):
        vault = document_vault()
        # With the part there is a state, but the lot itself has none.
        self.assertIsNone(clean_way(vault, (1,), ((0,),)))
        self.assertEqual(blocked(vault, (1,), ((0,),)), ())

    def test_edits_in_common_are_there_once(self):
        vault = document_vault()
        self.assertTrue(self.check(vault, (), ((0,), (0, 1))))
        self.assertTrue(self.check(vault, (), ((0, 1), (0, 1), (0,))))
        self.assertTrue(self.check(vault, (0,), ((0, 1), (0,), (1,))))
        self.assertTrue(self.check(vault, (), ((0, 1), (1,))))
        self.assertIsNone(clean_way(vault, (), ((1,), (1,))))
        self.assertEqual(blocked(vault, (), ((1,), (1,))), ((),))

    def test_all_parts_clean_but_not_on_the_way(self):
        vault = Vault((K,), (0,))
        vault.edit((), (1,))
        vault.edit((0,), (2,))
        vault.edit((), (0,))
        vault.edit((0, 1), (1,))
        self.assertEqual((vault.record((1, 3)), vault.barred((1,)), vault.barred((3,))), ((0,), (0,), (0,)))
        self.assertFalse(self.check(vault, (), ((1,), (3,))))
        self.assertTrue(self.check(vault, (), ((1,), (3,), (0,))))


class TestRefused(WayCase):

    def refuses_all(self, error, what, *args):
        """All three functions refuse it so."""
        for call in CALLS:
            self.refuses(error, what, call, *args)

    def test_lot(self):
        vault = document_vault()
        for thing in NO_LOTS + ODD[:12]:
            if thing not in ((), (0,), (0, 1)):
                self.refuses_all(BadLot, -1, vault, thing, ((0,),))
                # The lot is asked ahead of the parts.
                self.refuses_all(BadLot, -1, vault, thing, None)
        self.refuses_all(BadLot, 2, vault, (2,), None)
        self.refuses_all(BadLot, 5, vault, (0, 5), ((7,),))

    def test_parts(self):
        vault = document_vault()
        for thing in (None, True, 0, "", "01234567", (), ((),) * 9, (None,) * 9, ((9,),) * 20, nested(0)):
            self.refuses_all(BadParts, -1, vault, (), thing)
        for at in range(8):
            ahead = ((0,),) * at
            for thing in NO_LOTS + (nested(47),):
                if thing not in ((), (0,), (0, 1)):
                    self.refuses_all(BadLot, -1, vault, (), ahead + (thing,))
                    if at < 7:
                        self.refuses_all(BadLot, -1, vault, (), ahead + (thing, (7,)))
            self.refuses_all(BadLot, 2, vault, (), ahead + ((0, 2, 3),))
            if at < 7:
                self.refuses_all(BadLot, 7, vault, (), ahead + ((7,), None))
        # Numbers are no parts.
        self.refuses_all(BadLot, -1, vault, (), (0, 1))

    def test_nothing_has_changed(self):
        vault = document_vault()
        before = [(vault.steps_of(edit), vault.made_on(edit)) for edit in range(vault.edits())]
        for args in (((), ((0,), (1,))), ((), ((1,),)), ((9,), ()), ((), ())):
            for call in CALLS:
                outcome(call, vault, *args)
        self.assertEqual([(vault.steps_of(edit), vault.made_on(edit)) for edit in range(vault.edits())], before)


class TestBesideAListing(WayCase):

    def test_drawn_vaults(self):
        source = random.Random(53)
        let = barred = short = 0
        for _ in range(400):
            fields = source.choice((random_fields(source, 1), random_fields(source, 2), (K,), (K, K)))
            vault = random_vault(source, fields, source.randrange(1, 9))
            edits = range(vault.edits())
            lot = random_lot(source, source.sample(edits, source.randrange(min(3, len(edits)) + 1)))
            parts = tuple(random_lot(source, edits) for _ in range(source.randrange(1, 6)))
            if self.check(vault, lot, parts):
                let += 1
            else:
                barred += 1
                short += blocked(vault, lot, parts) == ()
        self.assertGreater(min(let, barred - short, short), 20)

    def test_parts_of_one_edit(self):
        source = random.Random(54)
        told = []
        for _ in range(120):
            vault = Vault((K,), (source.randrange(3),))
            for _ in range(5):
                vault.edit(random_lot(source, range(vault.edits())), (source.randrange(3),))
            told.append(self.check(vault, (), ((0,), (1,), (2,), (3,), (4,))))
        self.assertGreater(min(told.count(True), told.count(False)), 20)


class TestQuickly(WayCase):

    def parts_of_400(self, source, often):
        """Eight parts of a vault of 400 edits; each edit stands in so many."""
        parts = [[] for _ in range(8)]
        for edit in range(400):
            for part in source.sample(range(8), often):
                parts[part].append(edit)
        return tuple(tuple(part) for part in parts)

    def test_8_parts_of_a_full_vault(self):
        source = random.Random(55)
        wide = ((2,) * 12, tuple(tuple(int(j == k) for j in range(12)) for k in range(12)))
        for fields in ((TWELVE,), (K,), (wide,) * 6):
            vault = random_vault(source, fields, 400)
            for often in (1, 4, 8):
                parts = self.parts_of_400(source, often)
                start = time.process_time()
                for _ in range(20):
                    way = clean_way(vault, (), parts)
                    found = outcome(blocked, vault, (), parts)
                    part_steps(vault, (), parts)
                self.assertLess(time.process_time() - start, 10)
                paper = (vault.fields(), vault.amounts(()), part_steps(vault, (), parts))
                if way is None:
                    self.assertIs(blocked_right(*paper, found[1]), True)
                else:
                    self.assertEqual(found, ("CleanWay", 0))
                    self.assertIs(way_right(*paper, way), True)

    def test_thousands_of_calls(self):
        # All stands are clean but that of all parts, which alone leads to the barred amount: none is spared.
        kind = ((13,), tuple((k,) for k in range(12)))
        vault = Vault((kind,), (4,))
        for _ in range(8):
            vault.edit((), (5,))
        parts = tuple((edit,) for edit in range(8))
        stands = [stand for many in range(8) for stand in itertools.combinations(range(8), many)]
        start = time.process_time()
        for _ in range(1000):
            self.assertIsNone(clean_way(vault, (), parts))
        self.assertEqual(blocked(vault, (), parts), tuple(sorted(stands)))
        for _ in range(2000):
            self.assertEqual(sorted(clean_way(vault, (), parts[:7])), list(range(7)))
        self.assertLess(time.process_time() - start, 15)


if __name__ == "__main__":
    unittest.main()
