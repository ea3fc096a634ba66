"""[1]: primes and powers."""

import time
import unittest

from editlots.errors import BadMany
from editlots.numbers import is_prime, powers

from helpers import Case, ODD


def sieve(most):
    """For each number up to the most whether it is a prime."""
    marks = bytearray([1]) * (most + 1)
    marks[0] = marks[1] = 0
    for n in range(2, int(most ** 0.5) + 1):
        if marks[n]:
            marks[n * n::n] = bytes(len(range(n * n, most + 1, n)))
    return marks


class TestIsPrime(unittest.TestCase):

    def test_all_numbers_within_and_beyond(self):
        marks = sieve(1000003)
        for n in range(1000004):
            self.assertIs(is_prime(n), bool(marks[n]), n)
        for n in range(1000004, 1003000):
            self.assertIs(is_prime(n), False, n)

    def test_edges(self):
        self.assertIs(is_prime(2), True)
        self.assertIs(is_prime(999983), True)
        self.assertIs(is_prime(1000003), True)
        for n in (0, 1, -2, -3, 4, 1000000, 1000001, 1000002, 1000033, 2 ** 31 - 1, 10 ** 999 + 7, -(10 ** 999)):
            self.assertIs(is_prime(n), False)

    def test_judge(self):
        for thing in ODD:
            self.assertIs(is_prime(thing), repr(thing) in ("2", "13"))


class TestPowers(Case):

    def test_examples(self):
        self.assertEqual(powers(360), ((2, 3), (3, 2), (5, 1)))
        self.assertEqual(powers(1), ())

    def test_products(self):
        marks = sieve(1000000)
        numbers = list(range(1, 5000)) + list(range(999000, 1000001)) + [2 ** 19, 3 ** 12, 997 ** 2, 991 * 997, 2 * 499979]
        for n in numbers:
            found = powers(n)
            rest = 1
            for prime, often in found:
                self.assertTrue(marks[prime] and often >= 1)
                rest *= prime ** often
            self.assertEqual(rest, n)
            primes = [prime for prime, _ in found]
            self.assertEqual(primes, sorted(set(primes)))

    def test_edges(self):
        self.assertEqual(powers(2), ((2, 1),))
        self.assertEqual(powers(999983), ((999983, 1),))
        self.assertEqual(powers(1000000), ((2, 6), (5, 6)))

    def test_refused(self):
        for thing in ODD + (1000001, 1000003):
            if repr(thing) not in ("1", "2", "13"):
                self.refuses(BadMany, thing, powers, thing)

    def test_quick(self):
        start = time.perf_counter()
        for _ in range(5000):
            is_prime(1000003)
            powers(999983)
        self.assertLess(time.perf_counter() - start, 3)


if __name__ == "__main__":
    unittest.main()
