"""[29] and [30]: whole rows, their span, and scales."""

import itertools
import random
import time
import unittest

from editlots.errors import BadMany, BadRow, BadRows, TooMany
from editlots.wholerows import scales, span_factors

from helpers import Case, nested, ODD
from reckon import diagonal, in_span, prime_powers, sizes_of, summed, volume


def random_rows(source, rows, many, greatest):
    """So many rows of many numbers up to the greatest."""
    return tuple(tuple(source.randint(-greatest, greatest) for _ in range(many)) for _ in range(rows))


def sparse_rows(source, rows, many, greatest):
    """As random_rows, with noughts at most places."""
    keep = [(source.randrange(3) == 0) for _ in range(rows * many + 1)]
    return tuple(tuple(x * keep[at * many + k] for k, x in enumerate(row))
                 for at, row in enumerate(random_rows(source, rows, many, greatest)))


class Rows(Case):

    def check_factors(self, rows, many, target):
        """Factors are told that make the target."""
        factors = span_factors(rows, many, target)
        self.assertIsInstance(factors, tuple)
        self.assertEqual(len(factors), len(rows))
        self.assertTrue(all(type(factor) is int for factor in factors))
        self.assertEqual(summed(rows, factors, many), tuple(target))
        self.assertEqual(span_factors(rows, many, target), factors)

    def check_scales(self, rows, many):
        """The scales are of the form and tell just the rows of the span.

        The sums of marks are 0 for each row, and reach all tuples of sums.
        As the sizes are those of the rows, the sums are 0 for no other rows.
        """
        sizes, marks = scales(rows, many)
        self.assertEqual(sizes, sizes_of(rows, many))
        self.assertEqual(len(marks), many)
        for told in marks:
            self.assertIsInstance(told, tuple)
            self.assertEqual(len(told), len(sizes))
            self.assertTrue(all(type(mark) is int for mark in told))
            self.assertTrue(all(size == 0 or 0 <= mark < size for mark, size in zip(told, sizes)))
        for row in rows:
            for total, size in zip(summed(marks, row, len(sizes)), sizes):
                self.assertEqual(total % size if size else total, 0)
        turns = [tuple(size * (at == k) for k in range(len(sizes))) for at, size in enumerate(sizes)]
        self.assertEqual(diagonal(list(marks) + turns), [1] * len(sizes))
        self.assertEqual(scales(rows, many), (sizes, marks))

    def told_by(self, told, row):
        """Whether the marks tell that the row is in the span."""
        sizes, marks = told
        totals = summed(marks, row, len(sizes))
        return all((total % size if size else total) == 0 for total, size in zip(totals, sizes))


class TestSpan(Rows):

    def test_examples(self):
        self.assertEqual(span_factors(((4, 6), (6, 4)), 2, (2, -2)), (-1, 1))
        self.assertIsNone(span_factors(((4, 6), (6, 4)), 2, (2, 0)))

    def test_small_rows(self):
        source = random.Random(1)
        seen = {True: 0, False: 0}
        for _ in range(150):
            many = source.randrange(1, 4)
            rows = random_rows(source, source.randrange(0, 6), many, 4)
            for _ in range(5):
                target = tuple(source.randint(-6, 6) for _ in range(many))
                wanted = in_span(rows, target)
                seen[wanted] += 1
                if wanted:
                    self.check_factors(rows, many, target)
                else:
                    self.assertIsNone(span_factors(rows, many, target))
        self.assertGreater(min(seen.values()), 50)

    def test_sums_of_rows(self):
        source = random.Random(2)
        for many in range(1, 14):
            for greatest in (1, 4, 1000):
                for many_rows in (1, 2, many, many + 1, 30):
                    for rows in (
                        random_rows(source, many_rows, many, greatest), sparse_rows(source, many_rows, many, greatest),
                    ):
                        factors = [source.choice((0, 1, -1, 7, 10 ** 60)) for _ in rows]
                        self.check_factors(rows, many, summed(rows, factors, many))

    def test_near_the_span(self):
        source = random.Random(3)
        for _ in range(60):
            many = source.randrange(2, 6)
            rows = random_rows(source, many, many, 9)
            if len(diagonal(rows)) == many and volume(diagonal(rows)) > 1:
                units = [tuple(int(k == at) for k in range(many)) for at in range(many)]
                for unit in units:
                    if in_span(rows, unit):
                        self.check_factors(rows, many, unit)
                    else:
                        self.assertIsNone(span_factors(rows, many, unit))

    def test_noughts(self):
        for many in (1, 5, 13):
            nought = (0,) * many
            self.assertEqual(span_factors((), many, nought), ())
            self.check_factors((nought,) * 3, many, nought)
            self.check_factors(((1,) * many,), many, nought)
            self.assertIsNone(span_factors((), many, (1,) + (0,) * (many - 1)))
            self.assertIsNone(span_factors((nought,), many, (0,) * (many - 1) + (-1,)))

    def test_targets_of_any_size(self):
        rows = ((1000, 0, 3), (0, -1000, 7), (1, 1, 1), (0, 0, 2))
        for size in (10 ** 100, 10 ** 900, -10 ** 900):
            self.check_factors(rows, 3, (size, 2 * size, 4 * size))
        self.assertIsNone(span_factors(((2,),), 1, (10 ** 900 + 1,)))
        self.check_factors(((2,),), 1, (10 ** 900,))
        self.check_factors(((6,), (10,), (15,)), 1, (10 ** 900 + 1,))

    def test_long_chains(self):
        source = random.Random(4)
        for many in (2, 13):
            rows = tuple(tuple(2 ** e * (k == at) for k in range(many)) for e in range(9, -1, -1) for at in range(many))
            self.check_factors(rows, many, tuple(range(many)))
            rows = tuple(tuple(x * 2 ** e for x in row)
                         for e in range(9, -1, -1) for row in random_rows(source, 2 * many, many, 1000 // 2 ** e))
            self.check_factors(rows, many, summed(rows, [source.randint(-9, 9) for _ in rows], many))


class TestScales(Rows):

    def test_examples(self):
        self.assertEqual(scales(((4, 0), (0, 6)), 2)[0], (2, 4, 3))
        self.check_scales(((4, 0), (0, 6)), 2)
        self.assertEqual(scales((), 2)[0], (0, 0))
        self.check_scales((), 2)
        self.assertEqual(scales(((1, -1),), 2)[0], (0,))
        self.check_scales(((1, -1),), 2)
        self.assertEqual(scales(((1, 0), (0, 1)), 2), ((), ((), ())))

    def test_which_rows_they_tell(self):
        source = random.Random(5)
        for _ in range(40):
            many = source.randrange(1, 3)
            rows = random_rows(source, source.randrange(0, 4), many, 5)
            told = scales(rows, many)
            for row in itertools.product(range(-6, 7), repeat=many):
                self.assertIs(self.told_by(told, row), in_span(rows, row))

    def test_small_rows(self):
        source = random.Random(6)
        for _ in range(300):
            many = source.randrange(1, 6)
            self.check_scales(random_rows(source, source.randrange(0, 7), many, 4), many)
            self.check_scales(sparse_rows(source, source.randrange(0, 7), many, 4), many)

    def test_equal_sizes_and_many_primes(self):
        for rows in (
            ((6, 0), (0, 6)), ((30, 0, 0), (0, 30, 0), (0, 0, 30)), ((2, 4, 8), (8, 2, 4), (4, 8, 2)),
            ((12, 18), (18, 12)), ((8, 0, 0), (0, 4, 0), (0, 0, 2)), ((9, 3), (3, 9)), ((210, 0), (0, 330)),
            ((4, 4, 4, 4), (4, -4, 4, -4), (4, 4, -4, -4), (4, -4, -4, 4)), ((1000, 1), (0, 1000)), ((16, 8, 24),),
        ):
            self.check_scales(rows, len(rows[0]))

    def test_rows_with_noughts_ahead(self):
        # In these the greatest size hangs on the signs behind the leading numbers.
        for rows in (
            ((16, -6, -6, -2), (0, 9, 3, -8), (0, 0, 9, -3), (0, 0, 0, 4)),
            ((8, 2, -8, -2, -4), (0, 16, -8, -5, 3), (0, 0, 8, 7, -1), (0, 0, 0, 4, 1), (0, 0, 0, 0, 3)),
            ((9, 0, 1, -1, -1), (0, 9, 2, 2, 2), (0, 0, 4, -2, -1), (0, 0, 0, 4, 2), (0, 0, 0, 0, 4)),
        ):
            self.check_scales(rows, len(rows))
            many = len(rows)
            longer = tuple(row + (0, 0) for row in rows) + ((0,) * many + (997, 0), (0,) * (many + 1) + (991,))
            self.refuses(TooMany, diagonal(rows)[-1] * 997 * 991, scales, longer, many + 2)
        source = random.Random(14)
        for _ in range(400):
            many = source.randrange(2, 6)
            rows = []
            for at in range(many):
                behind = tuple(source.randint(-9, 9) for _ in range(many - at - 1))
                rows.append((0,) * at + (source.choice((2, 3, 4, 8, 9, 16)),) + behind)
            for told in (tuple(rows), tuple(zip(*rows))):
                if diagonal(told)[-1] <= 1000000:
                    self.check_scales(told, many)
                else:
                    self.refuses(TooMany, diagonal(told)[-1], scales, told, many)

    def test_all_places(self):
        source = random.Random(7)
        for many in range(1, 14):
            for rank in range(many + 1):
                base = random_rows(source, rank, many, 2)
                mixes = random_rows(source, 2 * rank, rank, 1) if rank else ()
                rows = tuple(summed(base, mix, many) for mix in mixes)
                rows = tuple(row for row in rows if max(map(abs, row)) <= 1000)
                numbers = diagonal(rows)
                if numbers and numbers[-1] > 1000000:
                    self.refuses(TooMany, numbers[-1], scales, rows, many)
                else:
                    self.check_scales(rows, many)

    def test_too_many(self):
        self.assertEqual(scales(((1000, 1), (0, 1000)), 2)[0], (64, 15625))
        self.refuses(TooMany, 1000001, scales, ((1000, 1), (-1, 1000)), 2)
        self.assertEqual(scales(((1000, 0), (0, 999)), 2)[0], (8, 27, 125, 37))
        self.refuses(TooMany, 1000 * 999 * 997, scales, ((1000, 0, 0), (0, 999, 0), (0, 0, 997)), 3)
        source = random.Random(8)
        for many in (2, 3, 4, 6, 13):
            for _ in range(10):
                rows = random_rows(source, many, many, 1000)
                most = diagonal(rows)[-1]
                if most > 1000000:
                    self.refuses(TooMany, most, scales, rows, many)
                else:
                    self.check_scales(rows, many)

    def test_greatest_sizes(self):
        self.check_scales(((997, 1), (0, 997)), 2)
        self.check_scales(((998, 1, 0), (0, 1000, 0), (0, 0, 2)), 3)
        self.assertEqual(prime_powers(994009), [(997, 994009)])


class TestRefused(Rows):

    def calls(self, error, what, rows, many, target=None):
        self.refuses(error, what, scales, rows, many)
        self.refuses(error, what, span_factors, rows, many, target)

    def test_rows(self):
        for thing in ODD:
            if not isinstance(thing, tuple):
                self.calls(BadRows, -1, thing, 2)
                self.calls(BadRows, -1, thing, 0)
            if repr(thing) != "(1, 2)":
                self.calls(BadRows, 1, ((0, 0), thing), 2)
        self.assertEqual(scales(((0,),) * 2000, 1)[0], (0,))
        self.calls(BadRows, -1, ((0,),) * 2001, 1)
        self.calls(BadRows, -1, (None,) * 2001, 99)
        for wrong in (1001, -1001, True, False, None, "1", (), (1,), 10 ** 999, nested(9)):
            for at in range(3):
                row = (0,) * at + (wrong,) + (0,) * (2 - at)
                self.calls(BadRows, 0, (row,), 3)
                self.calls(BadRows, 2, ((1000, -1000, 0), (0, 0, 0), row, None), 3)
        self.calls(BadRows, 1, ((0, 0), (0, 0, 0)), 2)
        self.calls(BadRows, 1, ((0, 0), (0,)), 2)

    def test_many(self):
        for wrong in (0, 14, -1, True, False, None, "2", (), 10 ** 999):
            self.calls(BadMany, wrong, (), wrong)
            self.calls(BadMany, wrong, (None,), wrong)
            self.calls(BadRows, -1, None, wrong)
        self.assertEqual(scales((), 13)[0], (0,) * 13)
        self.assertEqual(scales((), 1)[0], (0,))

    def test_target(self):
        rows = ((1, 2),)
        for thing in ODD:
            if repr(thing) != "(1, 2)":
                self.refuses(BadRow, -1, span_factors, rows, 2, thing)
                self.refuses(BadRows, 1, span_factors, rows + (None,), 2, thing)
                self.refuses(BadMany, 14, span_factors, rows, 14, thing)
        for target in ((1,), (1, 2, 3), (1, True), (False, 2), (1, None), (1, "2"), (1, (2,))):
            self.refuses(BadRow, -1, span_factors, rows, 2, target)


class TestQuick(Rows):

    def within(self, seconds, rows, many):
        """Both are told quickly of these rows."""
        source = random.Random(9)
        target = summed(rows, [source.randint(-9, 9) for _ in rows], many)
        start = time.perf_counter()
        try:
            scales(rows, many)
        except TooMany:
            pass
        factors = span_factors(rows, many, target)
        span_factors(rows, many, (1,) * many)
        self.assertLess(time.perf_counter() - start, seconds)
        self.assertEqual(summed(rows, factors, many), target)

    def test_small_numbers_at_many_places(self):
        source = random.Random(10)
        for many in (5, 9, 13):
            for rows in (1, many - 1, many, many + 1, 60, 2000):
                for greatest in (1, 2, 4):
                    self.within(2, random_rows(source, rows, many, greatest), many)
            for step in (2, 3, 4):
                rows = [tuple(step * (x // step) for x in row) for row in random_rows(source, 2000, many, 4)]
                self.within(2, tuple(row for row in rows if min(row) >= -4), many)
            base = random_rows(source, many - 1, many, 1)
            rows = [summed(base, mix, many) for mix in random_rows(source, 4000, many - 1, 1)]
            self.within(2, tuple(row for row in rows if max(map(abs, row)) <= 4)[:2000], many)

    def test_any_numbers_at_four_places(self):
        source = random.Random(11)
        for many in (1, 2, 3, 4):
            for rows in (1, many, many + 1, 60, 2000):
                self.within(2, random_rows(source, rows, many, 1000), many)
                for step in (2, 30, 60, 500, 999):
                    few = random_rows(source, rows, many, 1000 // step)
                    self.within(2, tuple(tuple(step * x for x in row) for row in few), many)
            chain = tuple(tuple(2 ** e * (k == at) for k in range(many)) for e in range(9, -1, -1) for at in range(many))
            self.within(2, chain * 20, many)

    def test_any_rows(self):
        source = random.Random(12)
        self.within(5, random_rows(source, 13, 13, 1000), 13)
        self.within(5, random_rows(source, 2000, 13, 1000), 13)

    def test_thousands_of_small_questions(self):
        source = random.Random(13)
        asked = [random_rows(source, 4, 4, 4) for _ in range(50)]
        start = time.perf_counter()
        for at in range(1000):
            scales(asked[at % 50], 4)
            span_factors(asked[at % 50], 4, asked[at % 50][0])
        self.assertLess(time.perf_counter() - start, 6)


if __name__ == "__main__":
    unittest.main()
