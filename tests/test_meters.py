"""[33] and [36]: meters of told rows, and the sizes of the differences."""

import random
import time
import unittest

from editlots.errors import BadTold, Fallen
from editlots.kernel import meters_right
from editlots.meters import difference_sizes, meters
from editlots.tables import greater, once, product, sides, turn
from editlots.told import fallen, told_of

from helpers import Case, ODD
from judging import meters_hold
from reckon import kept_told, pairs_fallen, random_told, sizes_of, turned_proof_tables, weights

T = (3, ((0, 1, 1, 2), (0, 2, 2, 0)))


class Metered(Case):

    def check(self, told):
        """Meters and sizes of the told rows are right, by the tests' own reckoning."""
        n, rows = told
        sizes = sizes_of([weights(n, row) for row in rows], n)
        self.assertEqual(sizes[:1], (0,))
        self.assertEqual(difference_sizes(told), sizes[1:])
        pairs = pairs_fallen(told)
        if pairs:
            self.refuses(Fallen, pairs[0], meters, told)
            self.assertEqual(fallen(told), pairs[0])
            return False
        found = meters(told)
        self.assertTrue(meters_hold(told, found))
        self.assertIs(meters_right(told, found), True)
        self.assertEqual(meters(told), found)
        return True


class TestMeters(Metered):

    def test_example(self):
        self.assertEqual(difference_sizes(T), (4,))
        self.assertTrue(self.check(T))
        self.assertTrue(meters_hold(T, ((4, (0, 1, 2)),)))
        self.assertEqual(difference_sizes((2, ())), (0,))
        self.assertTrue(self.check((2, ())))
        self.assertEqual(difference_sizes((4, ((0, 1, 1, 2), (1, 2, 2, 3), (0, 3, 3, 1)))), (5,))

    def test_one_state(self):
        for rows in (0, 1, 2000):
            told = (1, ((0, 0, 0, 0),) * rows)
            self.assertEqual(difference_sizes(told), ())
            self.assertTrue(self.check(told))

    def test_nothing_told(self):
        for n in range(1, 13):
            self.assertEqual(difference_sizes((n, ())), (0,) * (n - 1))
            self.assertTrue(self.check((n, ())))

    def test_nothing_new_told(self):
        told = (4, ((0, 0, 1, 1), (2, 3, 2, 3), (3, 3, 3, 3)))
        self.assertEqual(difference_sizes(told), (0, 0, 0))
        self.assertTrue(self.check(told))

    def test_order_proof_tables(self):
        for clocks, table in turned_proof_tables():
            told = told_of(table)
            self.assertEqual(difference_sizes(told), clocks)
            found = meters(told)
            self.assertTrue(meters_hold(told, found))
            self.assertIs(meters_right(told, found), True)

    def test_fallen(self):
        for table in (once(2), once(3), greater(3)):
            told = told_of(table)
            self.assertFalse(self.check(told))
            self.refuses(Fallen, (0, 1), meters, told)
        self.assertEqual(difference_sizes(told_of(once(2))), ())
        self.assertEqual(difference_sizes((3, ((0, 1, 1, 1),))), (0,))
        self.refuses(Fallen, (1, 2), meters, (3, ((0, 1, 0, 2),)))

    def test_random_rows(self):
        source = random.Random(11)
        clean = 0
        for n in range(2, 8):
            for rows in (0, 1, 1, 2, 2, 2, 3, 4, n, n + 1):
                clean += self.check(random_told(source, n, rows))
        self.assertGreater(clean, 10)

    def test_rows_kept_by_a_clock(self):
        source = random.Random(12)
        for n, size in ((2, 4), (3, 8), (4, 9), (5, 12), (6, 12), (6, 40), (7, 30), (8, 60), (9, 36)):
            for rows in (3, n, 20):
                self.assertTrue(self.check(kept_told(source, n, rows, size)))

    def test_clocks_and_endless_sizes_together(self):
        # 0 and 1, 2 and 3, 4 and 5 are half a round apart, and otherwise free.
        told = (6, ((0, 1, 1, 0), (2, 3, 3, 2), (4, 5, 5, 4)))
        self.assertEqual(difference_sizes(told), (0, 0, 2, 2, 2))
        self.assertTrue(self.check(told))
        told = (4, ((0, 1, 1, 2), (1, 2, 2, 0), (0, 3, 3, 1)))
        self.assertEqual(difference_sizes(told), sizes_of([weights(4, row) for row in told[1]], 4)[1:])
        self.check(told)

    def test_sides(self):
        for n in range(1, 13):
            told = told_of(sides(n))
            self.assertEqual(difference_sizes(told), (0,) * (n - 1))
            self.assertTrue(meters_hold(told, meters(told)))


class TestMany(Metered):

    def test_2000_rows(self):
        source = random.Random(13)
        for n, size in ((2, 2), (6, 8), (12, 12), (12, 16), (12, 40)):
            told = kept_told(source, n, 60, size)
            told = (n, (told[1] * 2000)[:2000])
            found = meters(told)
            self.assertTrue(meters_hold(told, found))
            self.assertIs(meters_right(told, found), True)
            difference_sizes(told)
        told = random_told(source, 12, 2000)
        self.refuses(Fallen, (0, 1), meters, told)
        self.assertEqual(difference_sizes(told), ())

    def test_thousands_of_calls(self):
        source = random.Random(14)
        told = [kept_told(source, n, 60, size) for n in (6, 12) for size in (12, 16, 40) for _ in range(10)]
        start = time.process_time()
        for _ in range(20):
            for one in told:
                meters(one)
                difference_sizes(one)
        self.assertLess(time.process_time() - start, 20)


class TestRefused(Case):

    def test_no_told(self):
        for call in (meters, difference_sizes):
            for thing in ODD:
                self.refuses(BadTold, -1, call, thing)
            for thing in ((0, ()), (13, ()), (True, ()), (2, None), (2, ((0, 0, 0, 0),) * 2001), (2, (), ())):
                self.refuses(BadTold, -1, call, thing)
            for row in ((0, 0, 0), (0, 0, 0, 2), (0, 0, True, 0), (0, -1, 0, 0), None, "0000"):
                self.refuses(BadTold, 1, call, (2, ((0, 1, 1, 1), row, None)))

    def test_by_name(self):
        self.assertEqual(meters(told=(1, ((0, 0, 0, 0),))), meters((1, ())))
        self.assertEqual(difference_sizes(told=T), (4,))


if __name__ == "__main__":
    unittest.main()
