"""[37] and [38]: order-proof tables of just the told states."""

import itertools
import random
import time
import unittest

from editlots.clocks import kinds
from editlots.errors import BadTold, TooMany
from editlots.fits import complete
from editlots.forced import known
from editlots.judge import order_proof
from editlots.tables import once, product, turn
from editlots.told import can, told_of

from helpers import Case, ODD, places
from reckon import holds_at, kept_told, placings, proof_tables_one_by_one, random_told, tells, turned_proof_tables

T = (3, ((0, 1, 1, 2), (0, 2, 2, 0)))


def can_be_placed(told):
    """Whether the states have hands by some clocks by which all told rows are so."""
    n, rows = told
    return any(all(holds_at(clocks, hands, row) for row in rows) for clocks in kinds(n) for hands in placings(clocks, n))


class Fitted(Case):

    def check(self, told, wanted):
        """A table is told exactly if one is wanted, and then it is right."""
        found = complete(told)
        self.assertIs(found is not None, wanted, told)
        if wanted:
            self.assertEqual(len(found), told[0])
            self.assertIs(order_proof(found), True)
            self.assertTrue(tells(found, told[1]))
        self.assertEqual(complete(told), found)


class TestComplete(Fitted):

    def test_examples(self):
        self.assertEqual(complete((2, ())), (((0, 1), (1, 0)), ((1, 0), (0, 1))))
        self.assertIsNone(complete(T))
        self.assertIs(can(T), True)
        self.assertEqual(complete((1, ())), turn(1))
        self.assertEqual(complete((1, ((0, 0, 0, 0),) * 2000)), turn(1))

    def test_nothing_told(self):
        for n in range(1, 9):
            self.check((n, ()), True)

    def test_beside_all_tables(self):
        source = random.Random(81)
        for n in range(1, 5):
            tables = proof_tables_one_by_one(n)
            for rows in list(range(5)) * 15:
                told = random_told(source, n, rows)
                self.check(told, any(tells(table, told[1]) for table in tables))
            for table in tables:
                every = told_of(table)
                self.assertEqual(complete(every), table)
                for rows in range(1, 6):
                    self.check((n, tuple(source.sample(every[1], min(rows, len(every[1]))))), True)

    def test_all_single_rows(self):
        for n in range(1, 5):
            tables = proof_tables_one_by_one(n)
            for row in itertools.product(range(n), repeat=4):
                self.check((n, (row,)), any(tells(table, (row,)) for table in tables))

    def test_all_pairs_of_rows(self):
        tables = proof_tables_one_by_one(3)
        rows = list(itertools.product(range(3), repeat=4))
        for one, two in itertools.combinations(rows, 2):
            self.check((3, (one, two)), any(tells(table, (one, two)) for table in tables))

    def test_five_states(self):
        source = random.Random(82)
        tables = proof_tables_one_by_one(5)
        for rows in list(range(5)) * 12:
            told = random_told(source, 5, rows)
            self.check(told, any(tells(table, told[1]) for table in tables))

    def test_parts_of_order_proof_tables(self):
        source = random.Random(83)
        for _, table in turned_proof_tables():
            n = len(table)
            if n <= 8:
                every = told_of(table)[1]
                for rows in (1, 3, 10, 60, len(every)):
                    self.check((n, tuple(source.sample(every, min(rows, len(every))))), True)
                self.assertEqual(complete((n, every)), table)

    def test_rows_kept_by_other_clocks(self):
        source = random.Random(84)
        for n, size in ((6, 6), (6, 7), (6, 8), (6, 12), (7, 7), (7, 9), (8, 8), (8, 9), (8, 10), (8, 16)):
            for rows in (2, 4):
                told = kept_told(source, n, rows, size)
                self.check(told, can_be_placed(told))

    def test_rounds_that_no_clocks_have(self):
        for n in range(3, 9):
            for many in range(3, n + 1):
                # These states go round in so many equal steps.
                rows = tuple((k, (k + 1) % many, (k + 1) % many, (k + 2) % many) for k in range(many))
                self.assertIs(can((n, rows)), True)
                self.check((n, rows), n % many == 0)

    def test_more_is_forced_than_is_known(self):
        # All three entries are forced in tables of just three states, none otherwise.
        told = (3, ())
        self.assertIsNone(known(told)[0][1][1])
        self.assertEqual({table[0][1][1] for table in proof_tables_one_by_one(3)}, {2})
        self.check((3, ((0, 1, 1, 2),)), True)
        self.check((3, ((0, 1, 1, 0),)), False)
        self.assertIs(can((3, ((0, 1, 1, 0),))), True)

    def test_each_of_the_clocks_of_eight(self):
        rows = tuple((0, k, k, 0) for k in range(8))
        self.check((8, rows), True)
        self.assertTrue(tells(complete((8, rows)), rows))
        two_four = product(turn(2), turn(4))
        rows = ((0, 1, 1, 2), (0, 4, 4, 0), (0, 2, 2, 0))
        self.assertTrue(tells(two_four, rows))
        self.check((8, rows), True)
        self.check((8, ((0, 1, 1, 2), (0, 2, 2, 3), (0, 3, 3, 0))), True)
        self.check((8, ((0, 1, 1, 2), (0, 2, 2, 3), (0, 3, 3, 4), (0, 5, 5, 0), (0, 4, 4, 0))), False)

    def test_fallen(self):
        for n in range(2, 9):
            self.assertIsNone(complete((n, ((0, 1, 1, 1),))))
            self.assertIsNone(complete(told_of(once(n))))

    def test_any_order_of_rows(self):
        source = random.Random(85)
        told = kept_told(source, 8, 6, 16)
        wanted = complete(told) is not None
        for _ in range(20):
            self.check((8, tuple(source.sample(told[1], len(told[1])))), wanted)


class TestRefused(Case):

    def test_no_told(self):
        for thing in ODD:
            self.refuses(BadTold, -1, complete, thing)
        for thing in ((13, ()), (True, ()), (2, None), (9, ((0, 0, 0, 0),) * 2001), (9, (), ())):
            self.refuses(BadTold, -1, complete, thing)
        for row in ((0, 0, 0), (0, 0, 0, 9), (0, 0, True, 0), None):
            self.refuses(BadTold, 1, complete, (9, ((0, 1, 1, 1), row)))

    def test_too_many_states(self):
        for n in range(9, 13):
            self.refuses(TooMany, n, complete, (n, ()))
            self.refuses(TooMany, n, complete, (n, ((0, 1, 1, 1),)))
            self.refuses(TooMany, n, complete, told_of(turn(n)))

    def test_by_name(self):
        self.assertEqual(complete(told=(2, ())), turn(2))


class TestQuickly(Case):

    def check_quickly(self, tolds, seconds):
        """All of these are answered in time."""
        start = time.process_time()
        for told in tolds:
            complete(told)
        self.assertLess(time.process_time() - start, seconds)

    def test_8_states(self):
        source = random.Random(86)
        self.check_quickly([(8, ())] * 100, 10)
        self.check_quickly([kept_told(source, 8, rows, size) for rows in (1, 5, 20, 60) for size in (8, 9, 16, 40)] * 10, 20)
        self.check_quickly([random_told(source, 8, rows) for rows in (1, 2, 3, 4, 60) for _ in range(20)], 20)
        told = told_of(product(turn(2), turn(4)))
        self.check_quickly([told, (8, (told[1] * 4)[:2000])] * 10, 10)

    def test_many_free_states(self):
        free = [((0, 1, 1, 2), (1, 2, 2, 0), (2, 0, 0, 1)), ((0, 1, 1, 0), (0, 2, 2, 0), (1, 3, 3, 1), (4, 5, 5, 4))]
        source = random.Random(87)
        tolds = []
        for rows in free:
            for _ in range(10):
                told = source.sample(range(8), 8)
                tolds.append((8, tuple(tuple(told[state] for state in row) for row in rows)))
        self.check_quickly(tolds, 20)

    def test_all_places(self):
        told = (8, tuple((0, k, k, 0) for k in range(3)))
        start = time.process_time()
        for o, a, b in places(3):
            complete((8, told[1] + ((o, a, b, 7),)))
        self.assertLess(time.process_time() - start, 20)


if __name__ == "__main__":
    unittest.main()
