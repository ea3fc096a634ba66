"""[21]: the sums of an order-proof table."""

import itertools
import random
import time
import unittest

from editlots.errors import BadState, BadTable, Gaps, NotProof
from editlots.groups import back, order_of, plus
from editlots.tables import greater, once, product, renamed, sides, turn

from helpers import all_gaps, Case, changed, ODD, places
from reckon import turned_proof_tables

CALLS = ((plus, 2), (back, 1), (order_of, 1))


def order_by_adding(table, a):
    """How many a are added until they are 0."""
    many, total = 1, a
    while total != 0:
        many, total = many + 1, table[0][total][a]
    return many


class TestSums(Case):

    def test_example(self):
        self.assertEqual(plus(turn(4), 3, 2), 1)
        self.assertEqual(back(turn(4), 1), 3)
        self.assertEqual([order_of(turn(4), a) for a in range(4)], [1, 4, 2, 4])

    def test_all_clocks_in_turned_names(self):
        for clocks, table in turned_proof_tables():
            states = range(len(table))
            for a in states:
                self.assertEqual(plus(table, a, back(table, a)), 0)
                self.assertEqual(back(table, a), [x for x in states if table[0][a][x] == 0][0])
                self.assertEqual(order_of(table, a), order_by_adding(table, a))
                for b in states:
                    self.assertEqual(plus(table, a, b), table[0][a][b])

    def test_entries_are_sums(self):
        for table in (turn(5), product(turn(2), turn(2)), renamed(product(turn(2), turn(3)), (3, 0, 5, 1, 2, 4))):
            for o, a, b in places(len(table)):
                self.assertEqual(table[o][a][b], plus(table, plus(table, a, back(table, o)), b))

    def test_orders_of_pairs(self):
        table = product(turn(2), turn(6))
        self.assertEqual(sorted(order_of(table, a) for a in range(12)), [1, 2, 2, 2, 3, 3, 6, 6, 6, 6, 6, 6])
        table = renamed(turn(5), (4, 0, 1, 2, 3))
        self.assertEqual([order_of(table, a) for a in range(5)], [1, 5, 5, 5, 5])

    def test_one_state(self):
        self.assertEqual((plus(turn(1), 0, 0), back(turn(1), 0), order_of(turn(1), 0)), (0, 0, 1))

    def test_by_name(self):
        self.assertEqual(plus(b=1, a=2, table=turn(3)), 0)
        self.assertEqual(back(a=2, table=turn(3)), 1)
        self.assertEqual(order_of(a=2, table=turn(3)), 3)

    def test_numbers(self):
        for table in (turn(1), turn(2), product(turn(2), turn(2))):
            for found in (plus(table, 0, 0), back(table, 0), order_of(table, 0)):
                self.assertIs(type(found), int)


class TestRefused(Case):

    def test_no_table(self):
        for call, states in CALLS:
            for thing in (None, 0, True, "", (), ((),), ((0,),), ((0, 0), (0, 0)), (((0,),),) * 2, (((0,),),) * 13):
                self.refuses(BadTable, -1, call, thing, *[0] * states)
                self.refuses(BadTable, -1, call, thing, *[None] * states)
            self.refuses(BadTable, (0, 0, 0), call, (((True,),),), *[None] * states)
            self.refuses(BadTable, (0, 1, 0), call, changed(turn(2), 0, 1, 0, 2), *[9] * states)
            self.refuses(BadTable, (1, 1, 1), call, changed(turn(2), 1, 1, 1, True), *[0] * states)

    def test_no_states(self):
        for n in (1, 4, 12):
            for wrong in [n, -1] + [thing for thing in ODD if type(thing) is not int] + [10 ** 999]:
                for table in (turn(n), sides(n), once(n), all_gaps(n)):
                    self.refuses(BadState, wrong, plus, table, wrong, 0)
                    self.refuses(BadState, wrong, plus, table, 0, wrong)
                    self.refuses(BadState, wrong, plus, table, wrong, None)
                    self.refuses(BadState, wrong, back, table, wrong)
                    self.refuses(BadState, wrong, order_of, table, wrong)

    def test_gaps_behind_states(self):
        for call, states in CALLS:
            self.refuses(Gaps, (0, 1, 1), call, sides(2), *[1] * states)
            self.refuses(Gaps, (2, 1, 0), call, changed(turn(3), 2, 1, 0, None), *[0] * states)
            # It is not order-proof either.
            self.refuses(Gaps, (2, 2, 2), call, changed(greater(3), 2, 2, 2, None), *[0] * states)

    def test_not_proof(self):
        for call, states in CALLS:
            for table in (once(2), greater(2), greater(12), changed(turn(5), 4, 4, 4, 0)):
                self.refuses(NotProof, 0, call, table, *[0] * states)

    def test_spoilt_at_any_place(self):
        for table in (turn(2), turn(3), turn(4)):
            for o, a, b in places(len(table)):
                wrong = changed(table, o, a, b, (table[o][a][b] + 1) % len(table))
                for call, states in CALLS:
                    self.refuses(NotProof, 0, call, wrong, *[0] * states)

    def test_thousands_of_calls(self):
        table = renamed(product(turn(2), turn(6)), tuple(random.Random(3).sample(range(12), 12)))
        start = time.process_time()
        for a, b in itertools.product(range(12), repeat=2):
            for _ in range(5):
                plus(table, a, b)
                back(table, a)
                order_of(table, b)
        self.assertLess(time.process_time() - start, 10)


if __name__ == "__main__":
    unittest.main()
