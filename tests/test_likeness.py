"""[22]: order-proof tables that are alike up to names."""

import itertools
import random
import time
import unittest

from editlots.errors import BadTable, Gaps, NotProof
from editlots.kernel import names_right
from editlots.likeness import alike, names
from editlots.tables import greater, once, product, renamed, sides, turn

from helpers import all_gaps, Case, changed
from judging import names_hold
from reckon import proof_tables_one_by_one, turned_proof_tables

CALLS = (names, alike)
FOUR = product(turn(2), turn(2))


class Alike(Case):

    def check(self, one, two, wanted):
        """Names are told just if they are wanted, and then they are right."""
        self.assertIs(alike(one, two), wanted)
        found = names(one, two)
        self.assertIs(found is not None, wanted)
        if wanted:
            self.assertEqual(renamed(one, found), two)
            self.assertTrue(names_hold(one, two, found))
            self.assertIs(names_right(one, two, found), True)
        self.assertEqual(names(one, two), found)


class TestNames(Alike):

    def test_all_clocks_in_turned_names(self):
        every = turned_proof_tables()
        for (clocks, one), (others, two) in itertools.product(every, repeat=2):
            if clocks == others:
                self.check(one, two, True)
        firsts = {clocks: table for clocks, table in every}
        for (clocks, one), (others, two) in itertools.product(firsts.items(), repeat=2):
            self.check(one, two, clocks == others)

    def test_one_by_one(self):
        for n in range(1, 5):
            tables = proof_tables_one_by_one(n)
            for one, two in itertools.product(tables, repeat=2):
                ways = [told for told in itertools.permutations(range(n)) if renamed(one, told) == two]
                self.check(one, two, bool(ways))
                if ways:
                    self.assertIn(names(one, two), ways)

    def test_state_0_has_any_name(self):
        for n in range(2, 13):
            for state in range(n):
                told = tuple((x + state) % n for x in range(n))
                self.check(turn(n), renamed(turn(n), told), True)
                told = (state,) + tuple(x for x in range(n) if x != state)
                self.check(turn(n), renamed(turn(n), told), True)
                self.check(renamed(turn(n), told), turn(n), True)

    def test_written_out(self):
        self.check(turn(4), FOUR, False)
        self.check(FOUR, turn(4), False)
        self.check(product(turn(2), turn(3)), turn(6), True)
        self.check(product(turn(3), turn(2)), product(turn(2), turn(3)), True)
        self.check(product(turn(2), turn(6)), turn(12), False)
        self.check(product(turn(4), turn(3)), turn(12), True)
        self.check(turn(1), turn(1), True)
        self.assertEqual(names(turn(1), turn(1)), (0,))

    def test_unlike_many_states(self):
        for m, n in itertools.product(range(1, 13), repeat=2):
            self.check(turn(m), turn(n), m == n)

    def test_by_name(self):
        self.assertIs(alike(two=turn(6), one=product(turn(3), turn(2))), True)
        self.assertIsNone(names(two=turn(4), one=FOUR))

    def test_quickly(self):
        source = random.Random(61)
        one = product(turn(2), turn(6))
        two = renamed(one, tuple(source.sample(range(12), 12)))
        start = time.process_time()
        for _ in range(300):
            names(one, two)
            alike(two, one)
        self.assertLess(time.process_time() - start, 10)


class TestRefused(Case):

    def test_no_tables(self):
        for call in CALLS:
            for thing in (None, 0, True, "", (), ((),), ((0,),), ((0, 0), (0, 0)), (((0,),),) * 2, (((0,),),) * 13):
                self.refuses(BadTable, -1, call, thing, turn(2))
                self.refuses(BadTable, -1, call, turn(2), thing)
                self.refuses(BadTable, -1, call, thing, thing)
                self.refuses(BadTable, -1, call, sides(2), thing)
                self.refuses(BadTable, -1, call, once(2), thing)
            wrong, other = changed(turn(2), 0, 1, 0, 2), changed(turn(3), 2, 1, 0, True)
            self.refuses(BadTable, (0, 1, 0), call, wrong, other)
            self.refuses(BadTable, (2, 1, 0), call, other, wrong)
            self.refuses(BadTable, (2, 1, 0), call, all_gaps(2), other)

    def test_gaps(self):
        for call in CALLS:
            self.refuses(Gaps, (0, 1, 1), call, sides(2), turn(2))
            self.refuses(Gaps, (0, 1, 1), call, turn(2), sides(2))
            self.refuses(Gaps, (0, 1, 1), call, sides(2), all_gaps(2))
            self.refuses(Gaps, (0, 0, 0), call, all_gaps(2), sides(2))
            self.refuses(Gaps, (0, 1, 1), call, sides(2), once(2))
            self.refuses(Gaps, (0, 1, 1), call, turn(3), sides(2))

    def test_not_proof(self):
        for call in CALLS:
            for wrong in (once(2), greater(3), greater(12), changed(turn(5), 4, 4, 4, 0)):
                self.refuses(NotProof, 0, call, wrong, turn(2))
                self.refuses(NotProof, 1, call, turn(2), wrong)
                self.refuses(NotProof, 0, call, wrong, wrong)
                # What the first one is comes ahead of what the second one is.
                self.refuses(NotProof, 0, call, wrong, sides(2))


if __name__ == "__main__":
    unittest.main()
