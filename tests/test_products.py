"""[5] and [6]: products, halves and names."""

import itertools
import random
import time
import unittest

from editlots.errors import BadMany, BadNames, BadTable, TooMany
from editlots.tables import greater, halves, many, once, product, renamed, sides, turn

from helpers import all_gaps, Case, changed, ODD, places, random_table, table_by

SIZES = [(n, m) for n in range(1, 13) for m in range(1, 13) if n * m <= 12]


class TestProduct(Case):

    def check(self, one, two):
        """Each entry of the product is the pair of the entries."""
        m = len(two)
        found = product(one, two)
        self.assertEqual(many(found), len(one) * m)
        for o, a, b in places(len(found)):
            x = one[o // m][a // m][b // m]
            y = two[o % m][a % m][b % m]
            self.assertEqual(found[o][a][b], None if x is None or y is None else x * m + y)

    def test_all_sizes(self):
        source = random.Random(3)
        for n, m in SIZES:
            self.check(turn(n), turn(m))
            self.check(random_table(source, n, 20), random_table(source, m, 20))
            self.check(all_gaps(n), turn(m))

    def test_twelve_pairs_and_more(self):
        self.assertEqual(many(product(turn(3), turn(4))), 12)
        self.assertEqual(many(product(turn(12), turn(1))), 12)
        for n in range(1, 13):
            for m in range(1, 13):
                if n * m > 12:
                    self.refuses(TooMany, n * m, product, turn(n), turn(m))

    def test_thirteen_states_are_no_table(self):
        thirteen = table_by(13, lambda o, a, b: 0)
        self.refuses(BadTable, -1, product, turn(1), thirteen)
        self.refuses(BadTable, -1, product, thirteen, turn(1))

    def test_refused(self):
        bad = changed(turn(2), 0, 1, 0, 2)
        self.refuses(BadTable, (0, 1, 0), product, bad, ())
        self.refuses(BadTable, -1, product, turn(2), ())
        self.refuses(BadTable, -1, product, (), bad)
        self.refuses(BadTable, (0, 1, 0), product, changed(turn(12), 0, 1, 0, 12), turn(12))
        self.refuses(BadTable, (0, 1, 0), product, turn(12), bad)


def half_of(table, many_states, part):
    """A half, by all entries of the table that hang on each of its own; None if they are at odds."""
    found = {}
    for o, a, b in places(len(table)):
        if table[o][a][b] is not None:
            found.setdefault((part(o), part(a), part(b)), set()).add(part(table[o][a][b]))
    if any(len(told) > 1 for told in found.values()):
        return None
    return table_by(many_states, lambda o, a, b: min(found.get((o, a, b), {None})))


class TestHalves(Case):

    def test_examples(self):
        self.assertIsNone(halves(turn(4), 2))
        self.assertEqual(halves(product(turn(2), turn(3)), 3), (turn(2), turn(3)))

    def test_products_without_gaps(self):
        source = random.Random(4)
        for n, m in SIZES:
            one, two = random_table(source, n, 0), random_table(source, m, 0)
            self.assertEqual(halves(product(one, two), m), (one, two))

    def test_products_with_gaps(self):
        source = random.Random(5)
        for n, m in SIZES * 3:
            one, two = random_table(source, n, 60), random_table(source, m, 60)
            whole = product(one, two)
            if any(told is not None for base in whole for row in base for told in row):
                self.assertEqual(halves(whole, m), (one, two))

    def test_a_half_of_gaps_makes_the_other_one_of_gaps(self):
        for n, m in SIZES:
            for whole in (product(all_gaps(n), turn(m)), product(turn(n), all_gaps(m)), all_gaps(n * m)):
                self.assertEqual(halves(whole, m), (all_gaps(n), all_gaps(m)))

    def test_a_gap_in_one_half(self):
        for place in places(2):
            one = changed(turn(2), *place, None)
            self.assertEqual(halves(product(one, turn(3)), 3), (one, turn(3)))
            self.assertEqual(halves(product(turn(3), one), 2), (turn(3), one))

    def test_one_entry_otherwise(self):
        whole = product(turn(2), turn(3))
        for place in places(6):
            for told in (None,) + tuple(range(6)):
                other = changed(whole, *place, told)
                wanted = (turn(2), turn(3)) if other == whole else None
                self.assertEqual(halves(other, 3), wanted)

    def test_edges(self):
        for n in range(1, 13):
            for table in (turn(n), greater(n), sides(n)):
                one = turn(1)
                self.assertEqual(halves(table, 1), (table, one))
                self.assertEqual(halves(table, n), (one, table))
        self.assertIsNone(halves(turn(8), 2))
        self.assertIsNone(halves(turn(9), 3))
        # By the numbers of its states turn(6) is no product, though its clocks are those of one.
        self.assertIsNone(halves(turn(6), 2))

    def test_any_tables(self):
        source = random.Random(6)
        for _ in range(300):
            table = random_table(source, 4, 90)
            one, two = half_of(table, 2, lambda x: x // 2), half_of(table, 2, lambda x: x % 2)
            wanted = (one, two) if one and two and product(one, two) == table else None
            self.assertEqual(halves(table, 2), wanted)

    def test_refused(self):
        table = turn(6)
        for wrong in (0, 4, 5, 7, 12, -1, -2, True, False, None, "2", (), 10 ** 999):
            self.refuses(BadMany, wrong, halves, table, wrong)
            self.refuses(BadTable, -1, halves, (table,), wrong)
        self.refuses(BadTable, (5, 5, 5), halves, changed(table, 5, 5, 5, True), 0)


class TestRenamed(Case):

    def test_example(self):
        self.assertEqual(renamed(greater(3), (2, 0, 1))[2][0][1], 1)

    def test_all_entries(self):
        source = random.Random(7)
        for n in range(1, 13):
            table = random_table(source, n, 20)
            names = tuple(source.sample(range(n), n))
            found = renamed(table, names)
            for o, a, b in places(n):
                told = table[o][a][b]
                wanted = None if told is None else names[told]
                self.assertEqual(found[names[o]][names[a]][names[b]], wanted)

    def test_there_and_back(self):
        table = once(4)
        for names in itertools.permutations(range(4)):
            back = tuple(names.index(state) for state in range(4))
            self.assertEqual(renamed(renamed(table, names), back), table)
        self.assertEqual(renamed(turn(12), tuple(range(12))), turn(12))

    def test_refused(self):
        table = turn(3)
        wrong = [(0, 1), (0, 1, 2, 3), (0, 1, 1), (1, 2, 3), (0, 1, -1), (0, True, 2), (False, 1, 2), (0, 1, "2")]
        wrong += [(0, 1, None), (0, 1, (2,)), (0, 2, 10 ** 999)]
        for names in wrong + [thing for thing in ODD]:
            self.refuses(BadNames, -1, renamed, table, names)
            self.refuses(BadTable, -1, renamed, (), names)
        self.refuses(BadTable, (0, 0, 0), renamed, changed(table, 0, 0, 0, 3), (0, 1))


class TestQuick(Case):

    def test_thousands(self):
        one, two = turn(3), turn(4)
        whole = product(one, two)
        names = tuple(range(11, -1, -1))
        start = time.perf_counter()
        for _ in range(1000):
            product(one, two)
            halves(whole, 4)
            renamed(whole, names)
        self.assertLess(time.perf_counter() - start, 8)


if __name__ == "__main__":
    unittest.main()
