"""[42]: lots of edits; what two rising tuples have together, in common, and one alone."""

import random
import time
import unittest

from editlots.errors import BadLot
from editlots.lotwork import common, joined, lacking, made_lot

from drawn import NO_LOTS, random_lot
from helpers import Case, nested, ODD


def rises(thing):
    """Whether it is a tuple of numbers from 0 to 399, each above the one ahead."""
    if type(thing) is not tuple or not all(type(part) is int and 0 <= part <= 399 for part in thing):
        return False
    return all(thing[k] < thing[k + 1] for k in range(len(thing) - 1))


class TestMadeLot(Case):

    def test_right_ones(self):
        for many, lot in ((0, ()), (1, ()), (1, (0,)), (5, (0, 4)), (5, (0, 1, 2, 3, 4)), (400, (399,)),
        (400, tuple(range(400)))):
            self.assertIs(made_lot(many, lot), lot)
            self.assertIs(made_lot(thing=lot, many=many), lot)

    def test_no_lots(self):
        for many in (0, 1, 2, 400):
            for thing in NO_LOTS + ODD + (nested(49), (nested(48),)):
                if not rises(thing):
                    self.refuses(BadLot, -1, made_lot, many, thing)

    def test_numbers_that_are_not_there(self):
        self.refuses(BadLot, 0, made_lot, 0, (0,))
        self.refuses(BadLot, 399, made_lot, 399, (399,))
        self.refuses(BadLot, 399, made_lot, 0, (399,))
        self.refuses(BadLot, 3, made_lot, 3, (0, 1, 2, 3))
        # The first one, not the last one.
        self.refuses(BadLot, 5, made_lot, 4, (0, 3, 5, 6, 399))
        self.refuses(BadLot, 1, made_lot, 1, tuple(range(400)))

    def test_form_ahead_of_numbers(self):
        for thing in ((5, 4), (0, 5, 5), (5, 400), (5, None), (5, True), (5, "6"), (400,)):
            self.refuses(BadLot, -1, made_lot, 3, thing)

    def test_all_small_ones(self):
        for many in range(4):
            for lot in [(a, b) for a in range(-1, 5) for b in range(-1, 5)]:
                if not 0 <= lot[0] < lot[1]:
                    self.refuses(BadLot, -1, made_lot, many, lot)
                elif lot[1] < many:
                    self.assertIs(made_lot(many, lot), lot)
                else:
                    self.refuses(BadLot, lot[0] if lot[0] >= many else lot[1], made_lot, many, lot)


class TestTwoTuples(Case):

    def check(self, one, two):
        """The three functions tell what sets tell."""
        self.assertEqual(joined(one, two), tuple(sorted(set(one) | set(two))))
        self.assertEqual(common(one, two), tuple(sorted(set(one) & set(two))))
        self.assertEqual(lacking(one, two), tuple(sorted(set(one) - set(two))))
        for found in (joined(one, two), common(one, two), lacking(one, two)):
            self.assertIs(type(found), tuple)

    def test_plain_ones(self):
        self.assertEqual(joined((0, 2), (1, 2, 5)), (0, 1, 2, 5))
        self.assertEqual(common((0, 2), (1, 2, 5)), (2,))
        self.assertEqual(lacking((0, 2), (1, 2, 5)), (0,))
        self.assertEqual(lacking((1, 2, 5), (0, 2)), (1, 5))

    def test_edges(self):
        for one in ((), (0,), (3,), (0, 1, 2, 3), (-5, 7)):
            for two in ((), (0,), (3,), (2,), (0, 1, 2, 3), (4, 5), (-9, -5, 7, 9)):
                self.check(one, two)

    def test_drawn_ones_of_all_kinds(self):
        source = random.Random(42)
        ids = sorted((hand, number) for hand in ("a", "a1", "b", "z") for number in (0, 1, 2, 10, 399))
        texts = sorted({"".join(source.choice("abc") for _ in range(k % 4)) for k in range(30)})
        deep = sorted(((a,), ((b, "x"), c)) for a in range(3) for b in range(2) for c in range(3))
        for things in (range(6), range(-3, 30), ids, texts, deep, [10 ** 999, 10 ** 999 + 1]):
            for _ in range(200):
                self.check(random_lot(source, things), random_lot(source, things))

    def test_by_name(self):
        self.assertEqual(joined(two=(1,), one=(0,)), (0, 1))
        self.assertEqual(common(two=(0, 1), one=(0,)), (0,))
        self.assertEqual(lacking(two=(0,), one=(0, 1)), (1,))

    def test_quickly(self):
        even, odd, full = tuple(range(0, 4000, 2)), tuple(range(1, 4000, 2)), tuple(range(4000))
        start = time.process_time()
        for _ in range(300):
            self.assertEqual(joined(even, odd), full)
            self.assertEqual(common(even, odd), ())
            self.assertEqual(lacking(full, odd), even)
        self.assertLess(time.process_time() - start, 10)


if __name__ == "__main__":
    unittest.main()
