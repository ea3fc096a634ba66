"""[34], [35], [36] and [38]: what told rows force, what could be, and the papers of both."""

import itertools
import random
import time
import unittest

from editlots.errors import BadState, BadTold, Fallen
from editlots.forced import could, could_paper, forced, forced_paper, known
from editlots.kernel import beyond_right, could_right, forced_right, meters_right, sum_right
from editlots.meters import meters
from editlots.tables import made_table, once, product, sides, turn
from editlots.told import can, fallen, no_paper, told_of

from helpers import all_gaps, Case, ODD, places
from judging import beyond_holds, could_holds, forced_holds
from reckon import holds_at, in_span, kept_told, pairs_fallen, placings, random_told, turned_proof_tables, weights

T = (3, ((0, 1, 1, 2), (0, 2, 2, 0)))
FIVE = (4, ((0, 1, 1, 2), (1, 2, 2, 3), (0, 3, 3, 1)))
CALLS = (forced, forced_paper, could, could_paper)


def forced_by_span(told, o, a, b):
    """The states whose row is in the span of what is told."""
    n, rows = told
    span = [weights(n, row) for row in rows]
    return [c for c in range(n) if in_span(span, weights(n, (o, a, b, c)))]


def could_by_span(told, o, a, b):
    """The states by which, put behind, no states fall together."""
    n, rows = told
    return tuple(c for c in range(n) if not pairs_fallen((n, rows + ((o, a, b, c),))))


class Told(Case):

    def check_forced(self, told, o, a, b):
        """What is forced, and its paper, hang together and are right by the judges."""
        c = forced(told, o, a, b)
        paper = forced_paper(told, o, a, b)
        self.assertEqual(forced_paper(told, o, a, b), paper)
        self.assertEqual(len(paper), 2 if c is None else 3)
        if c is None:
            self.assertEqual(paper[0], "beyond")
            self.assertTrue(beyond_holds(told, o, a, b, paper[1]))
            self.assertIs(beyond_right(told, o, a, b, paper[1]), True)
        else:
            self.assertEqual(paper[:2], ("forced", c))
            self.assertEqual(len(paper[2]), len(told[1]))
            self.assertTrue(forced_holds(told, o, a, b, c, paper[2]))
            self.assertIs(forced_right(told, o, a, b, c, paper[2]), True)
        return c

    def check_could(self, told, o, a, b):
        """What could be, and its paper, hang together and are right by the judges."""
        n, rows = told
        found = could(told, o, a, b)
        paper = could_paper(told, o, a, b)
        self.assertEqual(could_paper(told, o, a, b), paper)
        self.assertEqual(tuple(c for c in range(n) if paper[c][0] == "yes"), found)
        self.assertTrue(could_holds(told, o, a, b, paper))
        self.assertIs(could_right(told, o, a, b, paper), True)
        for c, part in enumerate(paper):
            self.assertEqual(len(part), 2 if part[0] == "yes" else 4)
            if part[0] == "no":
                self.assertEqual(len(part[3]), len(rows) + 1)
            if len(rows) < 2000:
                more = (n, rows + ((o, a, b, c),))
                self.assertEqual(part[1:], (meters(more),) if part[0] == "yes" else no_paper(more))
                check = meters_right if part[0] == "yes" else sum_right
                self.assertIs(check(more, *part[1:]), True)
        return found

    def check_all(self, told):
        """All entries; known is the table of those that are forced."""
        table = known(told)
        self.assertIs(made_table(table), table)
        self.assertEqual(len(table), told[0])
        for o, a, b in places(told[0]):
            c = self.check_forced(told, o, a, b)
            self.assertEqual(table[o][a][b], c)
            found = self.check_could(told, o, a, b)
            if c is not None:
                self.assertEqual(found, (c,))
        self.assertEqual(known(told), table)


class TestExamples(Told):

    def test_forced(self):
        self.assertEqual(forced(T, 2, 1, 1), 0)
        self.assertEqual(forced_paper(T, 2, 1, 1), ("forced", 0, (1, 0)))
        self.assertIsNone(forced(T, 0, 1, 2))
        self.assertTrue(beyond_holds(T, 0, 1, 2, forced_paper(T, 0, 1, 2)[1]))
        self.check_all(T)

    def test_could(self):
        self.assertEqual(could(T, 0, 1, 2), ())
        self.assertEqual(could((2, ()), 0, 1, 1), (0,))
        self.assertIsNone(forced((2, ()), 0, 1, 1))
        self.assertEqual(could(FIVE, 0, 2, 2), ())
        self.check_all((2, ()))
        self.check_all(FIVE)

    def test_known(self):
        self.assertEqual(known((2, ())), (((0, 1), (1, None)), ((None, 0), (0, 1))))
        table = known(T)
        self.assertEqual(table[2][1][1], 0)
        self.assertIsNone(table[0][1][2])
        self.assertEqual(table[0][1][1], 2)

    def test_one_state(self):
        for rows in ((), ((0, 0, 0, 0),) * 3):
            self.check_all((1, rows))
            self.assertEqual(forced((1, rows), 0, 0, 0), 0)
            self.assertEqual(known((1, rows)), turn(1))


class TestBySpan(Told):

    def test_small_ones(self):
        source = random.Random(71)
        for n in (2, 3, 3, 4, 4):
            for rows in range(4):
                told = random_told(source, n, rows)
                if not pairs_fallen(told):
                    self.check_by_span(told)

    def test_kept_by_a_clock(self):
        source = random.Random(72)
        for n, rows, size in ((3, 4, 7), (4, 3, 8), (4, 9, 12), (5, 4, 12)):
            self.check_by_span(kept_told(source, n, rows, size))

    def check_by_span(self, told):
        """All answers as the span tells them."""
        self.check_all(told)
        for o, a, b in places(told[0]):
            self.assertEqual([forced(told, o, a, b)], forced_by_span(told, o, a, b) or [None])
            self.assertEqual(could(told, o, a, b), could_by_span(told, o, a, b))

    def test_nothing_told(self):
        for n in range(1, 6):
            table = known((n, ()))
            for o, a, b in places(n):
                self.assertEqual(table[o][a][b], b if a == o else a if b == o else None)
        self.assertEqual(known((12, ())), sides(12))


class TestByTables(Told):

    def check_by_tables(self, told, kinds):
        """In each order-proof table with these clocks that tells the rows, the entries are what they must and can be."""
        n, rows = told
        table = known(told)
        seen = {place: {} for place in places(n)}
        for clocks in kinds:
            for hands in placings(clocks, n):
                if all(holds_at(clocks, hands, row) for row in rows):
                    for place in places(n):
                        entries = [c for c in range(n) if holds_at(clocks, hands, (*place, c))]
                        seen[place][entries[0] if entries else None] = True
        for place, found in seen.items():
            wanted = table[place[0]][place[1]][place[2]]
            if wanted is not None:
                self.assertEqual(list(found), [wanted])
            else:
                self.assertNotEqual(len(found), 1 if None not in found else 0)
                self.assertLessEqual({c for c in found if c is not None}, set(could(told, *place)))

    def test_all_placings(self):
        for told in ((2, ()), (3, ()), T, (3, ((0, 1, 1, 0),)), (3, ((0, 1, 1, 2),)), FIVE, (4, ((0, 1, 2, 3),))):
            self.check_by_tables(told, ((2, 3), (7,), (8,), (2, 2, 2), (2, 4), (3, 3), (2, 5)))

    def test_papers_are_tables(self):
        # The meters of a yes place the states in a table that has the entry.
        for told in (T, (3, ()), (4, ((0, 1, 1, 0), (2, 3, 3, 2)))):
            for o, a, b in places(told[0]):
                for c, part in enumerate(could_paper(told, o, a, b)):
                    if part[0] == "yes":
                        sizes = [size for size, _ in part[1]]
                        hands = [tuple(marks[state] for _, marks in part[1]) for state in range(told[0])]
                        self.assertEqual(len(set(hands)), told[0])
                        self.assertTrue(all(holds_at(sizes, hands, row) for row in told[1] + ((o, a, b, c),)))

    def test_order_proof_tables(self):
        for clocks, table in turned_proof_tables():
            told = told_of(table)
            self.assertEqual(known(told), table)
            n = len(table)
            for o, a, b in ((0, 0, 0), (0, n - 1, n - 1), (n - 1, n // 2, 0)):
                self.assertEqual(self.check_forced(told, o, a, b), table[o][a][b])
                if n < 7:
                    self.assertEqual(self.check_could(told, o, a, b), (table[o][a][b],))


class TestGreater(Told):

    def test_60_rows(self):
        source = random.Random(73)
        for n, rows, size in ((6, 60, 9), (6, 60, 40), (12, 60, 16), (12, 60, 40), (12, 60, 12), (12, 9, 100)):
            told = kept_told(source, n, rows, size)
            table = known(told)
            for _ in range(12):
                o, a, b = (source.randrange(n) for _ in range(3))
                c = self.check_forced(told, o, a, b)
                self.assertEqual(table[o][a][b], c)
                found = self.check_could(told, o, a, b)
                self.assertTrue(c is None or found == (c,))
            o, a, b, c = told[1][-1]
            self.assertEqual(forced(told, o, a, b), c)
            self.assertEqual(forced(told, c, a, b), o)

    def test_endless_sizes(self):
        told = (6, ((0, 1, 1, 2), (3, 4, 4, 5)))
        self.check_all(told)
        told = (5, ((0, 1, 2, 3),))
        self.check_all(told)

    def test_2000_rows(self):
        rows = ((0, 1, 1, 2), (0, 2, 2, 0)) * 1000
        told = (3, rows)
        self.check_all(told)
        self.assertEqual(could(told, 0, 1, 2), ())
        self.assertEqual(len(could_paper(told, 0, 1, 2)[0][3]), 2001)
        self.assertEqual(len(forced_paper(told, 2, 1, 1)[2]), 2000)
        told = (2, ((0, 0, 0, 0),) * 2000)
        self.assertEqual(could(told, 0, 1, 1), (0,))
        paper = could_paper(told, 0, 1, 1)
        self.assertEqual(paper[1], ("no", 0, 1, (0,) * 2000 + (1,)))
        self.assertIs(could_right(told, 0, 1, 1, paper), True)
        self.assertIs(could_right(told, 0, 1, 1, ()), False)

    def test_2000_rows_of_12_states(self):
        told = kept_told(random.Random(74), 12, 2000, 16)
        self.assertEqual(len(told[1]), 2000)
        self.check_forced(told, 0, 1, 2)
        self.check_could(told, 0, 1, 2)
        self.check_could(told, 3, 3, 5)


class TestRefused(Case):

    def test_no_told(self):
        for call in CALLS:
            for thing in ODD:
                self.refuses(BadTold, -1, call, thing, 0, 0, 0)
                self.refuses(BadTold, -1, call, thing, None, 9, -1)
            self.refuses(BadTold, 1, call, (2, ((0, 1, 1, 1), (0, 0, 0, 2))), 0, 0, 9)
            self.refuses(BadTold, -1, call, (2, ((0, 0, 0, 0),) * 2001), 0, 0, 0)
        for thing in ODD:
            self.refuses(BadTold, -1, known, thing)
        self.refuses(BadTold, 0, known, (2, ((0, 0, True, 0), None)))
        self.refuses(BadTold, -1, known, (13, ()))

    def test_no_states(self):
        fell = (2, ((0, 1, 1, 1),))
        for call in CALLS:
            for n in (1, 2, 12):
                for wrong in [n, -1, 10 ** 999] + [thing for thing in ODD if type(thing) is not int]:
                    for told in ((n, ()), fell if n == 2 else (n, ((0, 0, 0, 0),))):
                        self.refuses(BadState, wrong, call, told, wrong, 0, 0)
                        self.refuses(BadState, wrong, call, told, 0, wrong, 0)
                        self.refuses(BadState, wrong, call, told, 0, 0, wrong)
                        self.refuses(BadState, wrong, call, told, wrong, None, True)
                        self.refuses(BadState, wrong, call, told, 0, wrong, -5)

    def test_fallen(self):
        for told, pair in (
            ((2, ((0, 1, 1, 1),)), (0, 1)), ((3, ((0, 1, 0, 2),)), (1, 2)), (told_of(once(3)), (0, 1)),
            ((4, ((0, 1, 1, 2), (0, 1, 1, 3))), (2, 3)), ((3, ((0, 1, 1, 2), (1, 2, 2, 0), (1, 0, 0, 2), (2, 2, 1, 0))), None),
        ):
            self.assertEqual(fallen(told), pairs_fallen(told)[0])
            pair = fallen(told) if pair is None else pair
            for call in CALLS:
                self.refuses(Fallen, pair, call, told, 0, 1, 1)
            self.refuses(Fallen, pair, known, told)

    def test_by_name(self):
        for call in CALLS:
            self.assertEqual(call(b=1, a=1, o=2, told=T), call(T, 2, 1, 1))
        self.assertEqual(known(told=T), known(T))


class TestQuickly(Case):

    def check_quickly(self, told, seconds):
        """All entries, one by one and at once."""
        start = time.process_time()
        known(told)
        for o, a, b in places(told[0]):
            for call in CALLS:
                call(told, o, a, b)
        self.assertLess(time.process_time() - start, seconds)

    def test_all_entries_of_6_states(self):
        source = random.Random(75)
        for size in (6, 8, 9, 12, 40, 200):
            self.check_quickly(kept_told(source, 6, 60, size), 10)
        self.check_quickly((6, ()), 10)
        self.check_quickly((6, ((0, 1, 1, 2), (3, 4, 4, 5))), 10)
        self.check_quickly(told_of(product(turn(2), turn(3))), 10)

    def test_60_rows_of_12_states(self):
        source = random.Random(76)
        for size in (12, 16, 40, 200):
            told = kept_told(source, 12, 60, size)
            start = time.process_time()
            for _ in range(20):
                o, a, b = (source.randrange(12) for _ in range(3))
                for call in CALLS:
                    call(told, o, a, b)
                known(told)
            self.assertLess(time.process_time() - start, 10)

    def test_gaps_everywhere(self):
        self.assertEqual(known(told_of(all_gaps(12))), sides(12))
        self.assertIs(can(told_of(all_gaps(12))), True)


if __name__ == "__main__":
    unittest.main()
