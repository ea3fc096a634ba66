"""[39], [40] and the kind of [46]: kinds, amounts, tables of kinds and kinds of tables."""

import itertools
import random
import time
import unittest

from editlots.errors import BadAmount, BadKind, BadState, BadTable
from editlots.histories import clash
from editlots.judge import order_proof
from editlots.kinds import amount, is_kind, kind_of, made_amount, made_kind, moved, state_at, step, table_of
from editlots.tables import greater, made_table, once, product, sides, turn
from editlots.told import can, told_of

from bends import bends
from helpers import all_gaps, Case, changed, ODD, places, random_history, random_table
from judging import amount_fits, kind_fits
from reckon import spoilt, turned_proof_tables

K = ((4,), ((0,), (1,), (3,)))
ONE = ((), ((),))
GREAT = 10 ** 400
KINDS = (
    K, ONE, ((2,), ((1,), (0,))), ((2, 2), ((0, 0), (0, 1), (1, 0), (1, 1))), ((3, 4), ((2, 3), (0, 0), (1, 2))),
    ((GREAT, 7), ((GREAT - 1, 0), (0, 6), (GREAT // 2, 3))), ((GREAT,) * 12, tuple((k,) * 12 for k in range(12))),
    ((2,) * 12, tuple((0,) * k + (1,) * (12 - k) for k in range(12))), ((12,), tuple((k,) for k in range(12))),
)


def random_kind(source):
    """A kind of any sizes and states."""
    sizes = tuple(source.choice((2, 2, 3, 4, 5, 12, 100)) for _ in range(source.randrange(1, 5)))
    every = [tuple(source.randrange(size) for size in sizes) for _ in range(source.randrange(1, 13))]
    return (sizes, tuple(dict.fromkeys(every)))


def moved_by_hand(kind, a, o, b):
    """The amount of a, less that of o, and that of b added."""
    sizes, hands = kind
    return tuple((x - y + z) % size for size, x, y, z in zip(sizes, hands[a], hands[o], hands[b]))


class TestKinds(Case):

    def test_right_ones(self):
        for kind in KINDS:
            self.assertIs(made_kind(kind), kind)
            self.assertIs(is_kind(kind), True)

    def test_shape(self):
        for thing in ODD + (((),), ((), (), ()), ((4,), ((0,),), ()), "ab", ((2,),) * 3, "4"):
            if type(thing) is tuple and len(thing) == 2:
                continue
            self.refuses(BadKind, -1, made_kind, thing)
            self.assertIs(is_kind(thing), False)

    def test_sizes(self):
        for sizes in (None, 4, "4", True, (1,), (0,), (-2,), (True,), (False,), ("2",), (None,), ((2,),), (2, 1), (2, True)):
            for hands in (((0,),), None, (), ((0, 0),), ((True,),)):
                self.refuses(BadKind, 0, made_kind, (sizes, hands))
                self.assertIs(is_kind((sizes, hands)), False)
        self.refuses(BadKind, 0, made_kind, ((2,) * 13, ((0,) * 13,)))
        self.refuses(BadKind, 0, made_kind, ((1,), ((0,),)))
        self.refuses(BadKind, 0, made_kind, ((-GREAT,), ((0,),)))

    def test_hands(self):
        wrong = (
            None, (), 0, "0", True, (0,), ((),), ((4,),), ((-1,),), ((True,),), ((False,),), ((None,),), (("0",),), ((0, 0),),
            ((0,), (0,)), ((0,), (1,), (0,)), ((0,), None), ((0,), ()), (((0,),),), ((1,), (2,), (4,)), ((GREAT,),),
        )
        for hands in wrong:
            self.refuses(BadKind, 1, made_kind, ((4,), hands))
            self.assertIs(is_kind(((4,), hands)), False)
        self.refuses(BadKind, 1, made_kind, ((), ((), ())))
        self.refuses(BadKind, 1, made_kind, ((), ()))
        self.refuses(BadKind, 1, made_kind, ((), ((0,),)))
        self.refuses(BadKind, 1, made_kind, ((13,), tuple((k,) for k in range(13))))
        self.refuses(BadKind, 1, made_kind, ((2, 3), ((1, 2), (2, 1))))
        self.refuses(BadKind, 1, made_kind, ((GREAT,), ((GREAT,),)))

    def test_bent_ones(self):
        for kind in (K, ONE, KINDS[3], KINDS[4]):
            for bent in bends(kind):
                self.assertIs(is_kind(bent), kind_fits(bent), bent)
                if is_kind(bent):
                    self.assertIs(made_kind(bent), bent)
                elif type(bent) is not tuple or len(bent) != 2:
                    self.refuses(BadKind, -1, made_kind, bent)
                else:
                    # With a state of its own, it is the sizes that are wrong or not.
                    sizes = bent[0]
                    alone = kind_fits((sizes, ((0,) * len(sizes),))) if type(sizes) is tuple else False
                    self.refuses(BadKind, int(alone), made_kind, bent)

    def test_all_calls_want_a_kind(self):
        calls = (
            (made_amount, None), (amount, None), (state_at, None), (moved, None, None), (step, None, None), (table_of,),
        )
        for call, *rest in calls:
            for thing in ODD:
                told = 0 if type(thing) is tuple and len(thing) == 2 else -1
                self.refuses(BadKind, told, call, thing, *rest)
            self.refuses(BadKind, 0, call, ((1,), None), *rest)
            self.refuses(BadKind, 1, call, ((2,), ((2,),)), *rest)


class TestAmounts(Case):

    def test_written_out(self):
        self.assertEqual([amount(K, state) for state in range(3)], [(0,), (1,), (3,)])
        self.assertEqual([state_at(K, (k,)) for k in range(4)], [0, 1, None, 2])
        self.assertEqual(moved(K, (3,), (2,)), (1,))
        self.assertEqual(step(K, (3,), (1,)), (2,))
        self.assertEqual(step(K, (1,), (0,)), (3,))
        self.assertEqual((amount(ONE, 0), state_at(ONE, ()), moved(ONE, (), ()), step(ONE, (), ())), ((), 0, (), ()))
        self.assertEqual(moved(KINDS[4], (2, 3), (2, 3)), (1, 2))
        self.assertEqual(moved(KINDS[5], (GREAT - 1, 6), (GREAT - 1, 6)), (GREAT - 2, 5))
        self.assertEqual(step(KINDS[5], (1, 3), (0, 4)), (GREAT - 1, 1))

    def test_the_vault_of_the_document(self):
        first = amount(K, 0)
        e0, e1 = step(K, first, amount(K, 1)), step(K, first, amount(K, 2))
        self.assertEqual((e0, e1), ((1,), (3,)))
        self.assertEqual(state_at(K, moved(K, moved(K, first, e0), e1)), 0)
        e2 = step(K, moved(K, first, e0), amount(K, 2))
        self.assertEqual(e2, (2,))
        self.assertEqual(state_at(K, moved(K, moved(K, first, e0), e2)), 2)
        self.assertIsNone(state_at(K, moved(K, first, e2)))
        self.assertEqual(step(K, moved(K, first, e2), amount(K, 1)), (3,))

    def test_there_and_back(self):
        source = random.Random(21)
        for kind in KINDS + tuple(random_kind(source) for _ in range(40)):
            sizes, hands = kind
            for state, hand in enumerate(hands):
                self.assertEqual(amount(kind, state), hand)
                self.assertEqual(state_at(kind, hand), state)
                self.assertIs(type(state_at(kind, hand)), int)
            for _ in range(20):
                one, two = (tuple(source.randrange(size) for size in sizes) for _ in range(2))
                self.assertIs(made_amount(kind, one), one)
                self.assertEqual(state_at(kind, one), hands.index(one) if one in hands else None)
                way = step(kind, one, two)
                self.assertEqual(way, tuple((y - x) % size for size, x, y in zip(sizes, one, two)))
                self.assertEqual(moved(kind, one, way), two)
                self.assertEqual(moved(kind, one, two), tuple((x + y) % size for size, x, y in zip(sizes, one, two)))

    def test_no_amounts(self):
        wrong = [thing for thing in ODD if not amount_fits((4,), thing)]
        for thing in wrong + [(4,), (-1,), (True,), (False,), ("0",), (0, 0), (), ((0,),)]:
            self.refuses(BadAmount, -1, made_amount, K, thing)
            self.refuses(BadAmount, -1, state_at, K, thing)
            for call in (moved, step):
                self.refuses(BadAmount, -1, call, K, thing, (0,))
                self.refuses(BadAmount, -1, call, K, (0,), thing)
                self.refuses(BadAmount, -1, call, K, thing, thing)
        for thing in ((0,), None, 0):
            self.refuses(BadAmount, -1, made_amount, ONE, thing)
        for thing in ((0, 4), (3, 0), (0,), (0, 0, 0)):
            self.refuses(BadAmount, -1, state_at, KINDS[4], thing)

    def test_bent_amounts(self):
        kind = KINDS[4]
        for bent in bends((1, 0)):
            if amount_fits((3, 4), bent):
                self.assertIs(made_amount(kind, bent), bent)
            else:
                self.refuses(BadAmount, -1, made_amount, kind, bent)

    def test_no_states(self):
        for kind in (K, ONE, KINDS[6]):
            many = len(kind[1])
            for wrong in [many, -1, 10 ** 999] + [thing for thing in ODD if type(thing) is not int]:
                self.refuses(BadState, wrong, amount, kind, wrong)

    def test_by_name(self):
        self.assertEqual(made_kind(thing=K), K)
        self.assertEqual(made_amount(thing=(2,), kind=K), (2,))
        self.assertEqual(amount(state=2, kind=K), (3,))
        self.assertEqual(state_at(amount=(3,), kind=K), 2)
        self.assertEqual(moved(step=(3,), amount=(2,), kind=K), (1,))
        self.assertEqual(step(two=(3,), one=(2,), kind=K), (1,))


class TestTableOf(Case):

    def test_example(self):
        table = table_of(K)
        self.assertIsNone(table[0][1][1])
        self.assertEqual(table[0][1][2], 0)
        self.assertEqual(table[1][2][2], 1)
        self.assertEqual(table_of(ONE), turn(1))

    def test_all_entries(self):
        source = random.Random(22)
        for kind in KINDS + tuple(random_kind(source) for _ in range(60)):
            table = table_of(kind)
            hands = kind[1]
            self.assertIs(made_table(table), table)
            self.assertEqual(len(table), len(hands))
            for o, a, b in places(len(hands)):
                told = moved_by_hand(kind, a, o, b)
                self.assertEqual(table[o][a][b], hands.index(told) if told in hands else None)

    def test_turns(self):
        for n in range(2, 13):
            self.assertEqual(table_of(((n,), tuple((k,) for k in range(n)))), turn(n))
        pairs = tuple(itertools.product(range(2), range(6)))
        self.assertEqual(table_of(((2, 6), pairs)), product(turn(2), turn(6)))

    def test_no_history_clashes(self):
        source = random.Random(23)
        for kind in KINDS[:5] + tuple(random_kind(source) for _ in range(10)):
            table = table_of(kind)
            for _ in range(10):
                self.assertIsNone(clash(table, random_history(source, len(table), 12)))


class TestKindOf(Case):

    def check(self, table):
        """The kind of the table is right, and is told exactly if no states fall together."""
        kind = kind_of(table)
        self.assertIs(kind is not None, can(told_of(table)))
        if kind is None:
            return False
        self.assertTrue(kind_fits(kind))
        self.assertIs(is_kind(kind), True)
        hands = kind[1]
        self.assertEqual(len(hands), len(table))
        for o, a, b in places(len(table)):
            if table[o][a][b] is not None:
                self.assertEqual(hands[table[o][a][b]], moved_by_hand(kind, a, o, b))
        self.assertEqual(kind_of(table), kind)
        return True

    def test_examples(self):
        self.assertIsNone(kind_of((((0, 1), (1, 1)), ((0, 0), (0, 1)))))
        self.assertTrue(self.check(turn(1)))
        self.assertTrue(self.check(table_of(K)))
        self.assertTrue(self.check(all_gaps(1)))

    def test_order_proof_tables(self):
        for _, table in turned_proof_tables():
            self.assertTrue(self.check(table))
            self.assertEqual(table_of(kind_of(table)), table)

    def test_told_tables(self):
        for n in range(1, 13):
            self.assertTrue(self.check(sides(n)))
            self.assertTrue(self.check(all_gaps(n)))
            self.assertIs(self.check(once(n)), n == 1)
            self.assertIs(self.check(greater(n)), n == 1)

    def test_tables_of_kinds(self):
        source = random.Random(24)
        for kind in KINDS + tuple(random_kind(source) for _ in range(40)):
            table = table_of(kind)
            self.assertTrue(self.check(table))

    def test_parts_of_order_proof_tables(self):
        source = random.Random(25)
        for _, table in turned_proof_tables():
            for gaps in (20, 80):
                part = tuple(
                    tuple(tuple(None if source.randrange(100) < gaps else told for told in row) for row in base) for base in table
                )
                self.assertTrue(self.check(part))
            if len(table) > 1:
                self.assertFalse(self.check(spoilt(source, table)))

    def test_full_tables_of_two_states(self):
        for told in itertools.product((None, 0, 1), repeat=8):
            table = ((told[0:2], told[2:4]), (told[4:6], told[6:8]))
            clean = self.check(table)
            if None not in told:
                self.assertIs(clean, order_proof(table))

    def test_random_tables(self):
        source = random.Random(26)
        for n in range(2, 13):
            for gaps in (50, 90, 98):
                self.check(random_table(source, n, gaps))

    def test_no_table(self):
        for thing in (None, 0, True, "", (), ((),), ((0,),), ((0, 0), (0, 0)), (((0,),),) * 2, (((0,),),) * 13):
            self.refuses(BadTable, -1, kind_of, thing)
        self.refuses(BadTable, (1, 0, 1), kind_of, changed(once(2), 1, 0, 1, 2))
        self.refuses(BadTable, (1, 1, 1), kind_of, changed(turn(2), 1, 1, 1, True))

    def test_thousands_of_calls(self):
        table = table_of(KINDS[6])
        start = time.process_time()
        for _ in range(200):
            for call in (amount, state_at, moved, step):
                rest = ((0,) * 12,) * (2 if call in (moved, step) else 1)
                call(KINDS[6], *(rest if call is not amount else (11,)))
            table_of(KINDS[6])
            kind_of(table)
            kind_of(turn(12))
        self.assertLess(time.process_time() - start, 15)


if __name__ == "__main__":
    unittest.main()
