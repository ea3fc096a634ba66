"""[25] and [26]: self-turnings of clocks, and how many order-proof tables there are."""

import itertools
import math
import time
import unittest

from editlots.clocks import kinds, table_of_clocks
from editlots.counts import self_turnings, tables_count
from editlots.errors import BadClocks, BadMany
from editlots.judge import order_proof
from editlots.tables import renamed

from helpers import Case, ODD, table_by
from reckon import CLOCKS, prime_powers, proof_tables_one_by_one


def turnings_one_by_one(clocks):
    """How many ways there are to exchange all hands that keep sums: the images of the units are tried."""
    every = list(itertools.product(*[range(clock) for clock in clocks]))

    def times(many, hands):
        return tuple(many * hand % clock for hand, clock in zip(hands, clocks))

    def total(images, told):
        parts = [times(many, image) for many, image in zip(told, images)]
        return tuple(sum(column) % clock for column, clock in zip(zip(*parts), clocks))

    choices = [[hands for hands in every if not any(times(clock, hands))] for clock in clocks]
    found = 0
    for images in itertools.product(*choices):
        # No two have one image if nothing but noughts becomes noughts.
        found += not any(not any(total(images, told)) for told in every[1:])
    return found


def turnings_by_steps(clocks):
    """As many by another way: by how many clocks have each height, and how many are of just that one."""
    heights = {}
    for clock in clocks:
        (prime, part), = prime_powers(clock)
        heights.setdefault(prime, []).append(len([k for k in range(1, 21) if part % prime ** k == 0]))
    found = 1
    for prime, exponents in heights.items():
        exponent = 0
        for k in range(1, max(exponents) + 1):
            exponent += len([e for e in exponents if e >= k]) ** 2
            alike = exponents.count(k)
            exponent -= alike * (alike + 1) // 2
            for j in range(1, alike + 1):
                found *= prime ** j - 1
        found *= prime ** exponent
    return found


class TestSelfTurnings(Case):

    def test_examples(self):
        told = ((2, 2, 2), 168), ((2, 4), 8), ((8,), 4), ((3,), 2), ((), 1)
        for clocks, many in told:
            self.assertEqual(self_turnings(clocks), many)
            self.assertIs(type(self_turnings(clocks)), int)

    def test_one_by_one(self):
        more = ((16,), (2, 8), (4, 4), (2, 2, 4), (2, 2, 2, 2), (2, 4, 4), (2, 2, 8), (3, 9), (3, 3, 3), (5, 5), (2, 4, 3, 3))
        for clocks in CLOCKS + more:
            self.assertEqual(self_turnings(clocks), turnings_one_by_one(clocks), clocks)

    def test_many_clocks(self):
        for clocks in (
            (2,) * 20, (2,) * 5 + (4,) * 5 + (8,) * 5 + (16,) * 5, (524288,) * 20, (2, 524288) + (3,) * 9 + (9, 531441),
            tuple(2 ** k for k in range(1, 20)) + (3,), (999983,) * 20, (997, 994009) + (999983,) * 18,
        ):
            self.assertEqual(self_turnings(clocks), turnings_by_steps(clocks), clocks)

    def test_primes_go_apart(self):
        for one, two in (((2, 4), (3, 9)), ((2, 2, 2), (5, 5)), ((8,), (7, 49))):
            self.assertEqual(self_turnings(one + two), self_turnings(one) * self_turnings(two))

    def test_numbers_of_hundreds_of_figures(self):
        found = self_turnings((524287,) * 20)
        self.assertEqual(found, math.prod(524287 ** 20 - 524287 ** k for k in range(20)))
        self.assertGreater(found, 10 ** 2000)

    def test_quickly(self):
        start = time.process_time()
        for _ in range(200):
            self_turnings((999983,) * 20)
            self_turnings((2,) * 7 + (4,) * 7 + (524288,) * 6)
        self.assertLess(time.process_time() - start, 10)

    def test_no_clocks(self):
        for thing in [thing for thing in ODD if type(thing) is not tuple]:
            self.refuses(BadClocks, -1, self_turnings, thing)
        for clocks, at in (
            ((1,), 0), ((6,), 0), ((4, 2), 1), ((3, 2), 1), ((2, 4, 3, 2), 3), ((2, True), 1), ((2, None), 1), ((0,), 0),
            ((1000003,), 0), ((1048576,), 0), ((2, (2,)), 1), (("2",), 0), ((-2,), 0),
        ):
            self.refuses(BadClocks, at, self_turnings, clocks)

    def test_by_name(self):
        self.assertEqual(self_turnings(clocks=(2, 4)), 8)


class TestTablesCount(Case):

    def test_examples(self):
        self.assertEqual([tables_count(n) for n in range(1, 7)], [1, 1, 1, 4, 6, 60])
        self.assertEqual(tables_count(8), 1920)

    def test_one_by_one(self):
        for n in range(1, 6):
            tables = proof_tables_one_by_one(n)
            self.assertEqual(len(set(tables)), len(tables))
            self.assertTrue(all(order_proof(table) for table in tables))
            self.assertEqual(tables_count(n), len(tables))

    def test_all_tables_of_two_states(self):
        found = 0
        for told in itertools.product(range(2), repeat=8):
            found += order_proof(table_by(2, lambda o, a, b: told[4 * o + 2 * a + b]))
        self.assertEqual(tables_count(2), found)

    def test_all_names(self):
        for n in range(1, 7):
            tables = [table_of_clocks(clocks) for clocks in kinds(n)]
            every = {renamed(table, told) for table in tables for told in itertools.permutations(range(n))}
            self.assertEqual(tables_count(n), len(every))

    def test_all_numbers(self):
        for n in range(1, 41):
            wanted = sum(math.factorial(n) // (n * turnings_by_steps(clocks)) for clocks in kinds(n))
            self.assertEqual(tables_count(n), wanted)
            self.assertTrue(all(math.factorial(n) % (n * self_turnings(clocks)) == 0 for clocks in kinds(n)))
        self.assertEqual(tables_count(31), math.factorial(29))
        self.assertEqual(tables_count(37) * 36, math.factorial(36))

    def test_no_such_number(self):
        for n in [0, 41, -1, 1000] + [thing for thing in ODD if type(thing) is not int] + [10 ** 999, -10 ** 999]:
            self.refuses(BadMany, n, tables_count, n)

    def test_by_name(self):
        self.assertEqual(tables_count(n=4), 4)


if __name__ == "__main__":
    unittest.main()
