"""[31], [32] and [38]: tables told in part, and states that fall together."""

import itertools
import random
import time
import unittest

from editlots.errors import BadTable, BadTold, Can
from editlots.tables import greater, once, product, sides, turn
from editlots.told import can, fallen, made_told, no_paper, told_of

from helpers import all_gaps, Case, changed, ODD, places, random_table
from reckon import diagonal, in_span, random_told, summed, turned_proof_tables, unit_difference, volume, weights


def told_rows(table):
    """All entries of a table that are no gaps, as rows."""
    found = [(o, a, b, table[o][a][b]) for o, a, b in places(len(table))]
    return tuple(row for row in found if row[3] is not None)


class TestMade(Case):

    def test_what_is_told(self):
        source = random.Random(1)
        for n in range(1, 13):
            for rows in (0, 1, 2, 60, 2000):
                told = random_told(source, n, rows)
                self.assertIs(made_told(told), told)
        again = (2, ((1, 1, 1, 1), (0, 0, 0, 0), (1, 1, 1, 1)))
        self.assertIs(made_told(again), again)

    def test_shape(self):
        for call in (made_told, fallen, can, no_paper):
            for thing in ODD:
                self.refuses(BadTold, -1, call, thing)
            for n in (0, 13, -1, True, False, None, "2", (), 10 ** 999):
                self.refuses(BadTold, -1, call, (n, ()))
                self.refuses(BadTold, -1, call, (n, ((0, 0, 0, 9),)))
            for thing in ((2,), (2, (), ()), (2, None), (2, 0), (2, "0000"), (2, True), ((), 2), ((), ())):
                self.refuses(BadTold, -1, call, thing)
            self.refuses(BadTold, -1, call, (2, ((0, 0, 0, 0),) * 2001))
            self.refuses(BadTold, -1, call, (2, (None,) * 2001))

    def test_rows(self):
        for call in (made_told, fallen, can, no_paper):
            for thing in ODD:
                self.refuses(BadTold, 1, call, (2, ((0, 1, 1, 0), thing, None)))
            for row in ((0, 0, 0), (0, 0, 0, 0, 0), (0, 0, 0, None), ("0", "0", "0", "0"), "0000", 0):
                self.refuses(BadTold, 0, call, (2, (row, (0, 1, 1, 5))))
            for n in (1, 3, 12):
                for at, wrong in itertools.product(range(4), (n, -1, True, False, None, "0", (0,), 10 ** 999)):
                    row = (0,) * at + (wrong,) + (0,) * (3 - at)
                    self.refuses(BadTold, 2, call, (n, ((0, 0, 0, 0), (n - 1,) * 4, row, row)))


class TestToldOf(Case):

    def test_any_tables(self):
        source = random.Random(2)
        for n in range(1, 13):
            for table in (turn(n), sides(n), all_gaps(n), random_table(source, n, 50)):
                told = told_of(table)
                self.assertEqual(told, (n, told_rows(table)))
                self.assertEqual(list(told[1]), sorted(told[1]))
                self.assertIs(made_told(told), told)

    def test_written_out(self):
        self.assertEqual(told_of(changed(all_gaps(3), 2, 0, 1, 1)), (3, ((2, 0, 1, 1),)))
        self.assertEqual(told_of((((0,),),)), (1, ((0, 0, 0, 0),)))
        self.assertEqual(told_of((((None,),),)), (1, ()))
        self.assertEqual(
            told_of(sides(2)), (2, ((0, 0, 0, 0), (0, 0, 1, 1), (0, 1, 0, 1), (1, 0, 1, 0), (1, 1, 0, 0), (1, 1, 1, 1))),
        )

    def test_refused(self):
        self.refuses(BadTable, -1, told_of, ())
        self.refuses(BadTable, (0, 1, 1), told_of, changed(turn(2), 0, 1, 1, 2))


class TestFallen(Case):

    def check(self, told):
        """Both, and the paper, are as the span of the weights tells."""
        n, rows = told
        span = [weights(n, row) for row in rows]
        pairs = [pair for pair in itertools.combinations(range(n), 2) if in_span(span, unit_difference(n, *pair))]
        self.assertEqual(fallen(told), pairs[0] if pairs else None)
        self.assertIs(can(told), not pairs)
        if pairs:
            self.check_paper(told)
        else:
            self.refuses(Can, 0, no_paper, told)
        return bool(pairs)

    def check_paper(self, told):
        """The factors make two states fall together."""
        n, rows = told
        x, y, factors = no_paper(told)
        self.assertNotEqual(x, y)
        self.assertEqual(len(factors), len(rows))
        self.assertTrue(all(type(factor) is int for factor in factors))
        self.assertEqual(summed([weights(n, row) for row in rows], factors, n), unit_difference(n, x, y))
        self.assertEqual(no_paper(told), (x, y, factors))

    def test_example(self):
        told = (2, ((0, 1, 1, 1),))
        self.assertEqual(fallen(told), (0, 1))
        self.assertIs(can(told), False)
        self.assertEqual(no_paper(told), (0, 1, (1,)))

    def test_all_pairs_of_rows_over_two_states(self):
        rows = list(itertools.product((0, 1), repeat=4))
        for one in rows:
            self.check((2, (one,)))
            for two in rows:
                self.check((2, (one, two)))

    def test_any_rows(self):
        source = random.Random(3)
        seen = [0, 0]
        for _ in range(400):
            n = source.randrange(1, 7)
            seen[self.check(random_told(source, n, source.randrange(0, 6)))] += 1
        self.assertGreater(min(seen), 50)

    def test_least_pair_and_not_the_first_row(self):
        told = (5, ((1, 4, 4, 4), (2, 3, 3, 3)))
        self.assertEqual(fallen(told), (1, 4))
        self.check(told)
        # Two thirds and a half of a step: only together do they make states fall together.
        self.assertTrue(self.check((3, ((0, 1, 1, 2), (0, 2, 2, 1), (1, 0, 0, 0)))))
        self.assertFalse(self.check((3, ((0, 1, 1, 2), (0, 2, 2, 1)))))

    def test_more_states_may_be_needed(self):
        self.assertFalse(self.check((3, ((0, 1, 1, 2), (0, 2, 2, 0)))))
        self.assertFalse(self.check((4, ((0, 1, 1, 2), (1, 2, 2, 3), (0, 3, 3, 1)))))

    def test_order_proof_tables(self):
        source = random.Random(4)
        for _, table in turned_proof_tables():
            n, rows = told_of(table)
            told = (n, tuple(source.sample(rows, min(60, len(rows)))))
            self.assertIsNone(fallen(told))
            self.assertIs(can(told), True)
            self.refuses(Can, 0, no_paper, told)
            if n > 1:
                o, a, b = (source.randrange(n) for _ in range(3))
                wrong = (table[o][a][b] + source.randrange(1, n)) % n
                other = told_of(changed(table, o, a, b, wrong))
                self.assertIs(can(other), False)
                self.check_paper(other)

    def test_told_tables(self):
        for n in range(2, 7):
            self.assertIs(can(told_of(sides(n))), True)
            self.assertIs(can(told_of(once(n))), False)
            self.check_paper(told_of(greater(n)))

    def test_no_rows_and_one_state(self):
        self.assertIs(can((12, ())), True)
        self.refuses(Can, 0, no_paper, (12, ()))
        self.assertIsNone(fallen((1, ((0, 0, 0, 0),) * 5)))

    def test_rows_that_say_nothing_have_factors_too(self):
        told = (3, ((0, 0, 0, 0), (1, 0, 1, 0), (0, 1, 1, 1), (0, 1, 1, 1)))
        self.check_paper(told)
        self.assertEqual(len(no_paper(told)[2]), 4)

    def test_spans_grow_as_reckoned(self):
        # What in_span rests on: the volume of a span of whole rank is that of its determinant.
        self.assertEqual(volume(diagonal(((2, 1), (0, 3)))), 6)
        self.assertTrue(in_span(((2, 1), (0, 3)), (2, 4)))
        self.assertFalse(in_span(((2, 1), (0, 3)), (1, 2)))


class TestQuick(Case):

    def test_sixty_rows(self):
        source = random.Random(5)
        asked = [random_told(source, 12, 60) for _ in range(10)]
        asked += [(12, tuple(source.sample(told_of(turn(12))[1], 60))) for _ in range(10)]
        asked += [(n, rows + ((0, 1, 1, 1),)) for n, rows in asked]
        asked += [random_told(source, 12, 11), (12, ())]
        start = time.perf_counter()
        for at in range(1000):
            told = asked[at % len(asked)]
            fallen(told)
            if not can(told):
                no_paper(told)
        self.assertLess(time.perf_counter() - start, 8)

    def test_all_entries_of_six_states(self):
        for table in (turn(6), greater(6), product(turn(2), turn(3)), sides(6)):
            start = time.perf_counter()
            for _ in range(50):
                told = told_of(table)
                if not can(told):
                    no_paper(told)
            self.assertLess(time.perf_counter() - start, 4)

    def test_many_rows(self):
        start = time.perf_counter()
        told = random_told(random.Random(6), 12, 2000)
        self.assertIs(can(told), False)
        no_paper(told)
        self.assertIs(can(told_of(turn(12))), True)
        self.assertLess(time.perf_counter() - start, 2)


if __name__ == "__main__":
    unittest.main()
