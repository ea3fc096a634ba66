"""[23], [24], [27] and [28]: clocks, their kinds, and tables of clocks."""

import itertools
import random
import time
import unittest

from editlots.clocks import kinds, made_clocks, table_of_clocks
from editlots.errors import BadClocks, BadMany, TooMany
from editlots.judge import coordinates, order_proof
from editlots.tables import product

from helpers import Case, ODD, places
from reckon import CLOCKS, prime_powers, turned_proof_tables, volume

# How many ways there are to part 0 to 9 into numbers above 0.
PARTITIONS = (1, 1, 2, 3, 5, 7, 11, 15, 22, 30)


def by_prime_and_size(size):
    """Where a prime power stands among clocks."""
    return (prime_powers(size)[0][0], size)


class TestMade(Case):

    def test_what_are_clocks(self):
        for clocks in CLOCKS + (
            (2, 2, 4, 8, 3, 9, 9, 27, 5), (999983,), (524288,), (531441,), (994009,), (2,) * 500, (999983, 999983),
            (2, 999983),
        ):
            self.assertIs(made_clocks(clocks), clocks)

    def test_each_number(self):
        for size in list(range(-3, 3000)) + list(range(999900, 1000100)):
            fits = 2 <= size <= 1000000 and len(prime_powers(size)) == 1
            if fits:
                self.assertEqual(made_clocks((size,)), (size,))
            else:
                self.refuses(BadClocks, 0, made_clocks, (size,))

    def test_order(self):
        self.refuses(BadClocks, 1, made_clocks, (4, 2))
        self.refuses(BadClocks, 1, made_clocks, (3, 2))
        self.refuses(BadClocks, 1, made_clocks, (3, 4))
        self.refuses(BadClocks, 2, made_clocks, (2, 3, 2))
        self.refuses(BadClocks, 3, made_clocks, (2, 4, 9, 3))
        self.refuses(BadClocks, 2, made_clocks, (2, 4, 2, 6))
        sizes = (2, 3, 4, 5, 8, 9)
        for many in (2, 3):
            for clocks in itertools.product(sizes, repeat=many):
                wrong = [at for at in range(1, many) if by_prime_and_size(clocks[at]) < by_prime_and_size(clocks[at - 1])]
                if wrong:
                    self.refuses(BadClocks, wrong[0], made_clocks, clocks)
                else:
                    self.assertEqual(made_clocks(clocks), clocks)

    def test_refused(self):
        for thing in ODD:
            if not isinstance(thing, tuple):
                self.refuses(BadClocks, -1, made_clocks, thing)
                self.refuses(BadClocks, -1, table_of_clocks, thing)
            if repr(thing) not in ("2", "13"):
                self.refuses(BadClocks, 1, made_clocks, (2, thing, 0))
                self.refuses(BadClocks, 1, table_of_clocks, (2, thing, 0))
        self.refuses(BadClocks, 0, made_clocks, (1000003,))


class TestKinds(Case):

    def test_examples(self):
        self.assertEqual(kinds(8), ((2, 2, 2), (2, 4), (8,)))
        self.assertEqual(kinds(12), ((2, 2, 3), (4, 3)))
        self.assertEqual(kinds(1), ((),))

    def test_all(self):
        for n in range(1, 1001):
            found = kinds(n)
            self.assertEqual(list(found), sorted(set(found)))
            wanted = 1
            for prime, power in prime_powers(n):
                often = [prime ** e for e in range(10)].index(power)
                wanted *= PARTITIONS[often]
            self.assertEqual(len(found), wanted)
            for clocks in found:
                self.assertEqual(volume(clocks), n)
                self.assertTrue(all(len(prime_powers(size)) == 1 for size in clocks))
                self.assertEqual(list(clocks), sorted(clocks, key=by_prime_and_size))
                self.assertIs(made_clocks(clocks), clocks)

    def test_refused(self):
        for wrong in (0, 1001, -1, True, False, None, "8", (), (8,), 10 ** 999):
            self.refuses(BadMany, wrong, kinds, wrong)


class TestTableOfClocks(Case):

    def test_example(self):
        self.assertEqual(table_of_clocks((2, 3))[0][4][5], 0)
        self.assertEqual(coordinates(table_of_clocks((2, 3)))[0], (2, 3))

    def test_all(self):
        for clocks in CLOCKS:
            table = table_of_clocks(clocks)
            hands = sorted(itertools.product(*[range(clock) for clock in clocks]))
            self.assertEqual(len(table), len(hands))
            for o, a, b in places(len(table)):
                wanted = tuple((x - y + z) % c for x, y, z, c in zip(hands[a], hands[o], hands[b], clocks))
                self.assertEqual(hands[table[o][a][b]], wanted)
            self.assertIs(order_proof(table), True)
            self.assertEqual(coordinates(table)[0], clocks)

    def test_twelve_states_and_more(self):
        self.assertEqual(len(table_of_clocks((4, 3))), 12)
        self.assertEqual(len(table_of_clocks((11,))), 11)
        for clocks in ((13,), (2, 7), (3, 5), (16,), (2, 2, 2, 2), (999983,), (4, 3, 3), (2,) * 40):
            self.refuses(TooMany, volume(clocks), table_of_clocks, clocks)
        self.refuses(BadClocks, 1, table_of_clocks, (13, 2))

    def test_one_kind_for_each_order_proof_table(self):
        for clocks, table in turned_proof_tables():
            told = coordinates(table)[0]
            self.assertEqual([kind for kind in kinds(len(table)) if kind == told], [clocks])

    def test_clocks_of_products(self):
        for one in CLOCKS:
            for two in CLOCKS:
                if volume(one) * volume(two) <= 12:
                    table = product(table_of_clocks(one), table_of_clocks(two))
                    self.assertEqual(coordinates(table)[0], tuple(sorted(one + two, key=by_prime_and_size)))


class TestQuick(Case):

    def test_thousands(self):
        source = random.Random(1)
        clocks = tuple(sorted((source.choice((2, 4, 3, 9, 999983)) for _ in range(50)), key=by_prime_and_size))
        start = time.perf_counter()
        for _ in range(1000):
            made_clocks(clocks)
            kinds(512)
            table_of_clocks((2, 2, 3))
        self.assertLess(time.perf_counter() - start, 6)
        start = time.perf_counter()
        made_clocks((999983,) * 19999)
        self.assertLess(time.perf_counter() - start, 3)


if __name__ == "__main__":
    unittest.main()
