"""[19]: the judges of papers about told rows."""

import itertools
import random
import time
import unittest

from editlots.kernel import beyond_right, could_right, forced_right, meters_right, sum_right
from editlots.meters import meters
from editlots.tables import once, turn
from editlots.told import fallen, no_paper, told_of
from editlots.wholerows import scales, span_factors

from judgecase import JudgeCase
from judging import beyond_holds, could_holds, forced_holds, meters_hold, sum_holds
from reckon import kept_told, random_told, unit_difference, weights

T = (3, ((0, 1, 1, 2), (0, 2, 2, 0)))
GREAT = 10 ** 300


def span_of(told):
    """The weights of all told rows."""
    return tuple(weights(told[0], row) for row in told[1])


def factors_to(told, row):
    """Factors that make the weights of the row, None if there are none."""
    return span_factors(span_of(told), told[0], weights(told[0], row))


def beyond_paper(told, o, a, b):
    """A meter for each state that keeps all told rows, and not that with the state as entry."""
    n = told[0]
    sizes, marks = scales(span_of(told), n)
    found = []
    for c in range(n):
        row = weights(n, (o, a, b, c))
        for k, size in enumerate(sizes):
            total = sum(row[state] * marks[state][k] for state in range(n))
            round_size = size if size else abs(total) + 1
            if round_size > 1 and total % round_size:
                found.append((round_size, tuple(marks[state][k] % round_size for state in range(n))))
                break
    return tuple(found)


def could_paper(told, o, a, b):
    """For each state as entry, meters or factors."""
    n, rows = told
    found = []
    for c in range(n):
        more = (n, rows + ((o, a, b, c),))
        found.append(("yes", meters(more)) if fallen(more) is None else ("no", *no_paper(more)))
    return tuple(found)


class TestSums(JudgeCase):

    def lets_sum(self, *args):
        self.lets(sum_right, sum_holds, args)

    def bars_sum(self, *args):
        self.assertIs(self.says(sum_right, sum_holds, args), False)

    def test_written_out(self):
        told = (2, ((0, 1, 1, 1),))
        self.lets_sum(told, 0, 1, (1,))
        self.lets_sum(told, 1, 0, (-1,))
        for x, y, factors in itertools.product((-1, 0, 1, 2), (-1, 0, 1, 2), ((1,), (-1,), (0,), (2,), (), (1, 0))):
            right = (x, y, factors) in ((0, 1, (1,)), (1, 0, (-1,)))
            self.assertIs(self.says(sum_right, sum_holds, (told, x, y, factors)), right)
        # A state does not fall together with itself.
        self.bars_sum(told, 0, 0, (0,))
        self.bars_sum((1, ()), 0, 0, ())
        self.bars_sum((2, ()), 0, 1, ())

    def test_what_the_package_tells(self):
        source = random.Random(41)
        for n in range(2, 13):
            for rows in (n, 60, 2000):
                told = random_told(source, n, rows)
                if fallen(told) is not None:
                    self.lets_sum(told, *no_paper(told))
        self.lets_sum(told_of(once(12)), *no_paper(told_of(once(12))))

    def test_factors_of_any_size(self):
        told = (3, ((0, 1, 1, 1), (0, 0, 1, 1), (2, 2, 2, 2)))
        self.lets_sum(told, 0, 1, (1, GREAT, -GREAT))
        self.bars_sum(told, 0, 1, (GREAT, 0, 0))
        told = (2, ((0, 1, 1, 1), (0, 1, 1, 1)))
        self.lets_sum(told, 0, 1, (1 - GREAT, GREAT))
        self.bars_sum(told, 0, 1, (1 - GREAT, GREAT + 1))
        self.bars_sum(told, 0, 1, (GREAT, GREAT))

    def test_one_for_each_row(self):
        told = (2, ((0, 1, 1, 1), (0, 0, 0, 0)))
        self.lets_sum(told, 0, 1, (1, 5))
        for factors in ((1,), (1, 0, 0), (), (True, 0), (1, False), (1, None), (1, "0"), ((1,), (0,)), None, 1):
            self.bars_sum(told, 0, 1, factors)

    def test_told_rows_that_are_wrong(self):
        self.bars_sum((13, ((0, 1, 1, 1),)), 0, 1, (1,))
        self.bars_sum((2, ((0, 1, 1, 2),)), 0, 1, (1,))
        self.bars_sum((2, ((0, 1, 1, True),)), 0, 1, (1,))
        self.lets_sum((2, ((0, 1, 1, 1),) * 2000), 0, 1, (1,) + (0,) * 1999)
        self.bars_sum((2, ((0, 1, 1, 1),) * 2001), 0, 1, (1,) + (0,) * 2000)

    def test_bent(self):
        self.judges_bends(sum_right, sum_holds, ((2, ((0, 1, 1, 1),)), 0, 1, (1,)))
        told = (3, ((0, 1, 1, 2), (1, 2, 2, 0), (0, 2, 1, 1)))
        self.judges_bends(sum_right, sum_holds, (told, *no_paper(told)))

    def test_anything(self):
        self.judges_anything(sum_right, sum_holds, ((2, ((0, 1, 1, 1),)), 0, 1, (1,)))

    def test_by_name(self):
        self.assertIs(sum_right(factors=(1,), y=1, x=0, told=(2, ((0, 1, 1, 1),))), True)


class TestMeters(JudgeCase):

    def lets_meters(self, *args):
        self.lets(meters_right, meters_hold, args)

    def bars_meters(self, *args):
        self.assertIs(self.says(meters_right, meters_hold, args), False)

    def test_written_out(self):
        self.lets_meters(T, ((4, (0, 1, 2)),))
        self.lets_meters(T, ((4, (3, 0, 1)),))
        self.lets_meters(T, ((8, (0, 2, 4)), (2, (0, 0, 0)), (4, (1, 1, 1))))
        self.lets_meters((2, ()), ((2, (0, 1)),))
        for meters_told in (((4, (0, 1, 3)),), ((3, (0, 1, 2)),), ((2, (0, 1, 0)),), ((4, (0, 2, 0)),), ()):
            self.bars_meters(T, meters_told)

    def test_each_two_states_in_one_of_them(self):
        told = (4, ())
        one, two, three = (2, (0, 0, 1, 1)), (2, (0, 1, 0, 1)), (2, (0, 1, 1, 0))
        for pair in ((one, two), (two, one), (one, three), (three, two), (one, two, three)):
            self.lets_meters(told, pair)
        for pair in ((one,), (one, one), (two,), (three, three), ()):
            self.bars_meters(told, pair)
        # All meters have to keep all rows, also where fewer part the states.
        told = (2, ((0, 1, 1, 0),))
        self.lets_meters(told, ((2, (0, 1)),))
        self.bars_meters(told, ((2, (0, 1)), (3, (0, 1))))
        self.lets_meters(told, ((2, (0, 1)), (3, (1, 1))))

    def test_marks(self):
        told = (2, ())
        self.lets_meters(told, ((GREAT, (GREAT - 1, 0)),))
        for meter in (
            (GREAT, (GREAT, 0)), (2, (0, 2)), (2, (0, -1)), (2, (0, True)), (True, (0, 0)), (1, (0, 0)), (0, (0, 1)),
            (-2, (0, 1)), (2, (0,)), (2, (0, 1, 1)), (2,), (2, (0, 1), ()), ((0, 1), 2), None, (2, "01"), ("2", (0, 1)),
        ):
            self.bars_meters(told, (meter,))
            self.bars_meters(told, ((2, (0, 1)), meter))
        self.bars_meters(told, (2, (0, 1)))

    def test_one_state(self):
        self.lets_meters((1, ()), ())
        self.lets_meters((1, ((0, 0, 0, 0),) * 2000), ((7, (6,)),))
        self.bars_meters((1, ()), ((1, (0,)),))
        self.bars_meters((1, ((0, 0, 0, 0),) * 2001), ())
        self.bars_meters((2, ()), ())

    def test_what_the_package_tells(self):
        source = random.Random(42)
        for n in range(1, 13):
            for rows, size in ((2, 30), (20, 24), (60, 13)):
                told = kept_told(source, n, rows, size)
                self.lets_meters(told, meters(told))
                self.bars_meters((n, told[1] + ((0, n - 1, n - 1, n - 1),)), meters(told) if n > 1 else None)

    def test_bent(self):
        self.judges_bends(meters_right, meters_hold, (T, ((4, (0, 1, 2)),)))
        told = (4, ((0, 1, 1, 0), (2, 3, 3, 2), (0, 1, 2, 3)))
        self.judges_bends(meters_right, meters_hold, (told, meters(told)))
        self.judges_bends(meters_right, meters_hold, ((1, ()), ()))

    def test_anything(self):
        self.judges_anything(meters_right, meters_hold, (T, ((4, (0, 1, 2)),)))
        self.judges_anything(meters_right, meters_hold, ((1, ()), ()))

    def test_by_name(self):
        self.assertIs(meters_right(meters=((4, (0, 1, 2)),), told=T), True)


class TestForced(JudgeCase):

    def lets_forced(self, *args):
        self.lets(forced_right, forced_holds, args)

    def bars_forced(self, *args):
        self.assertIs(self.says(forced_right, forced_holds, args), False)

    def test_written_out(self):
        self.lets_forced(T, 2, 1, 1, 0, (1, 0))
        self.lets_forced(T, 0, 1, 1, 2, (1, 0))
        self.lets_forced(T, 0, 0, 1, 1, (0, 0))
        self.bars_forced(T, 2, 1, 1, 0, (0, 0))
        self.bars_forced(T, 2, 1, 1, 0, (1, 1))
        self.bars_forced(T, 2, 1, 1, 1, (1, 0))
        self.lets_forced((1, ()), 0, 0, 0, 0, ())

    def test_where_states_fall_together(self):
        told = (2, ((0, 1, 1, 1),))
        for o, a, b, c in itertools.product(range(2), repeat=4):
            self.lets_forced(told, o, a, b, c, factors_to(told, (o, a, b, c)))

    def test_all_entries(self):
        for told in (T, told_of(turn(3)), (4, ((0, 1, 1, 0), (0, 1, 2, 3)))):
            for row in itertools.product(range(told[0]), repeat=4):
                factors = factors_to(told, row)
                if factors is not None:
                    self.lets_forced(told, *row, factors)
                for other in ((0,) * len(told[1]), (1,) * len(told[1])):
                    self.says(forced_right, forced_holds, (told, *row, other))

    def test_factors(self):
        told = (2, ((0, 1, 1, 0), (1, 0, 0, 1)))
        self.lets_forced(told, 0, 1, 1, 0, (GREAT + 1, GREAT))
        self.lets_forced(told, 0, 1, 1, 0, (-GREAT, -1 - GREAT))
        for factors in ((GREAT, GREAT), (1,), (1, 0, 0), (True, 0), (1, False), (1, None), None, ((1, 0),)):
            self.bars_forced(told, 0, 1, 1, 0, factors)
        for states in ((2, 1, 1, 2), (0, 1, 1, False), (-2, 1, 1, 0), (0, 1, 1, None), ("0", 1, 1, 0), (0, True, True, 0)):
            self.bars_forced(told, *states, (1, 0))

    def test_bent(self):
        self.judges_bends(forced_right, forced_holds, (T, 2, 1, 1, 0, (1, 0)))
        told = (4, ((0, 1, 1, 2), (1, 2, 2, 3), (0, 3, 3, 1)))
        self.judges_bends(forced_right, forced_holds, (told, 1, 3, 1, 3, factors_to(told, (1, 3, 1, 3))))

    def test_anything(self):
        self.judges_anything(forced_right, forced_holds, (T, 2, 1, 1, 0, (1, 0)))

    def test_by_name(self):
        self.assertIs(forced_right(factors=(1, 0), c=0, b=1, a=1, o=2, told=T), True)


class TestBeyond(JudgeCase):

    def lets_beyond(self, *args):
        self.lets(beyond_right, beyond_holds, args)

    def bars_beyond(self, *args):
        self.assertIs(self.says(beyond_right, beyond_holds, args), False)

    def test_written_out(self):
        meter = (4, (0, 1, 2))
        self.lets_beyond(T, 0, 1, 2, (meter,) * 3)
        # 1 and 2 make 3, which is none of the marks; 1 and 1 make 2.
        self.bars_beyond(T, 0, 1, 1, (meter,) * 3)
        self.bars_beyond(T, 0, 1, 2, (meter,) * 2)
        self.bars_beyond(T, 0, 1, 2, (meter,) * 4)
        self.bars_beyond(T, 0, 1, 2, ())
        self.bars_beyond(T, 0, 1, 2, (meter, meter, (4, (0, 1, 3))))
        self.bars_beyond(T, 0, 1, 2, (meter, meter, (4, (0, 0, 0))))
        self.bars_beyond((1, ()), 0, 0, 0, ((2, (0,)),))
        self.bars_beyond((1, ()), 0, 0, 0, ())

    def test_in_order_of_the_states(self):
        told = (2, ())
        # The meter of 0 must not keep (0, 1, 1, 0), the one of 1 not (0, 1, 1, 1).
        two, three = (2, (0, 1)), (3, (0, 1))
        self.lets_beyond(told, 0, 1, 1, (three, two))
        self.lets_beyond(told, 0, 1, 1, (three, three))
        self.bars_beyond(told, 0, 1, 1, (two, three))
        self.bars_beyond(told, 0, 1, 1, (two, two))

    def test_made_papers(self):
        source = random.Random(43)
        let = 0
        for n, rows, size in ((2, 1, 5), (3, 2, 9), (4, 3, 12), (6, 60, 9), (12, 60, 40), (12, 8, 100)):
            told = kept_told(source, n, rows, size)
            for _ in range(20):
                o, a, b = (source.randrange(n) for _ in range(3))
                paper = beyond_paper(told, o, a, b)
                forced = any(factors_to(told, (o, a, b, c)) is not None for c in range(n))
                self.assertIs(self.says(beyond_right, beyond_holds, (told, o, a, b, paper)), not forced)
                let += not forced
        self.assertGreater(let, 40)

    def test_states(self):
        told = (2, ())
        paper = ((3, (0, 1)), (3, (0, 1)))
        for states in ((2, 1, 1), (0, -1, 1), (0, 1, True), (False, 1, 1), (None, 1, 1), ("0", 1, 1), (0, 1, (1,))):
            self.bars_beyond(told, *states, paper)

    def test_bent(self):
        self.judges_bends(beyond_right, beyond_holds, (T, 0, 1, 2, ((4, (0, 1, 2)), (8, (0, 2, 4)), (4, (3, 0, 1)))))
        told = (3, ((0, 1, 1, 0),))
        self.judges_bends(beyond_right, beyond_holds, (told, 0, 1, 2, beyond_paper(told, 0, 1, 2)))

    def test_anything(self):
        self.judges_anything(beyond_right, beyond_holds, (T, 0, 1, 2, ((4, (0, 1, 2)),) * 3))

    def test_by_name(self):
        self.assertIs(beyond_right(meters=((4, (0, 1, 2)),) * 3, b=2, a=1, o=0, told=T), True)


class TestCould(JudgeCase):

    def lets_could(self, *args):
        self.lets(could_right, could_holds, args)

    def bars_could(self, *args):
        self.assertIs(self.says(could_right, could_holds, args), False)

    def test_written_out(self):
        told = (2, ())
        yes, no = ("yes", ((2, (0, 1)),)), ("no", 0, 1, (1,))
        self.lets_could(told, 0, 1, 1, (yes, no))
        self.lets_could(told, 0, 1, 1, (yes, ("no", 1, 0, (-1,))))
        for paper in ((no, yes), (yes,), (yes, no, no), (yes, yes), (no, no), (), (yes, ("no", 1, 0, (1,))), None):
            self.bars_could(told, 0, 1, 1, paper)
        self.bars_could(told, 0, 1, 1, (yes, ("yes", 0, 1, (1,))))
        self.bars_could(told, 0, 1, 1, (("no", ((2, (0, 1)),)), no))
        self.bars_could(told, 0, 1, 1, (yes, ("no", 0, 1, ())))
        self.bars_could(told, 0, 1, 1, (("yes", ((3, (0, 1)),)), no))
        self.bars_could(told, 0, 1, 1, (yes, ("No", 0, 1, (1,))))

    def test_made_papers(self):
        source = random.Random(44)
        for n, rows, size in ((1, 0, 1), (2, 1, 5), (3, 2, 9), (4, 3, 12), (6, 60, 9), (12, 60, 40), (12, 8, 100)):
            told = kept_told(source, n, rows, size)
            for _ in range(6):
                o, a, b = (source.randrange(n) for _ in range(3))
                self.lets_could(told, o, a, b, could_paper(told, o, a, b))

    def test_where_states_fall_together(self):
        told = (2, ((0, 1, 1, 1),))
        self.lets_could(told, 0, 0, 0, (("no", 0, 1, (1, 0)), ("no", 0, 1, (1, GREAT - GREAT))))
        self.lets_could(told, 0, 0, 0, (("no", 0, 1, (1, 5)), ("no", 0, 1, (0, -1))))
        self.bars_could(told, 0, 0, 0, (("no", 0, 1, (1,)), ("no", 0, 1, (1,))))

    def test_2001_rows(self):
        rows = ((0, 0, 0, 0),) * 2000
        paper = (("yes", ((2, (0, 1)),)), ("no", 0, 1, (0,) * 2000 + (1,)))
        self.lets_could((2, rows), 0, 1, 1, paper)
        self.bars_could((2, rows), 0, 1, 1, (paper[0], ("no", 0, 1, (0,) * 1999 + (1,))))
        self.bars_could((2, rows + rows[:1]), 0, 1, 1, (paper[0], ("no", 0, 1, (0,) * 2001 + (1,))))
        self.bars_could((2, rows + rows[:1]), 0, 1, 1, paper)
        self.bars_could((2, rows[1:] + ((0, 1, 1, 1),)), 0, 1, 1, paper)

    def test_states(self):
        paper = (("yes", ((2, (0, 1)),)), ("no", 0, 1, (1,)))
        for states in ((2, 1, 1), (0, -1, 1), (0, 1, True), (False, 1, 1), (None, 1, 1), ("0", 1, 1), (0, 1, (1,))):
            self.bars_could((2, ()), *states, paper)

    def test_bent(self):
        told = (2, ((0, 0, 1, 1),))
        self.judges_bends(could_right, could_holds, (told, 0, 1, 1, could_paper(told, 0, 1, 1)))
        self.judges_bends(could_right, could_holds, (T, 0, 1, 2, could_paper(T, 0, 1, 2)))
        self.judges_bends(could_right, could_holds, (T, 0, 1, 1, could_paper(T, 0, 1, 1)))
        self.judges_bends(could_right, could_holds, ((1, ()), 0, 0, 0, (("yes", ()),)))

    def test_anything(self):
        paper = (("yes", ((2, (0, 1)),)), ("no", 0, 1, (1,)))
        self.judges_anything(could_right, could_holds, ((2, ()), 0, 1, 1, paper))

    def test_by_name(self):
        paper = (("yes", ((2, (0, 1)),)), ("no", 0, 1, (1,)))
        self.assertIs(could_right(paper=paper, b=1, a=1, o=0, told=(2, ())), True)


class TestQuickly(JudgeCase):

    def test_thousands_of_calls(self):
        told = kept_told(random.Random(45), 12, 60, 40)
        bad = (12, told[1] + ((0, 1, 1, 1),))
        found = meters(told)
        row = told[1][0]
        factors, paper = factors_to(told, row), could_paper(told, *row[:3])
        falling = no_paper(bad)
        start = time.process_time()
        for _ in range(1000):
            self.assertIs(meters_right(told, found), True)
            self.assertIs(forced_right(told, *row, factors), True)
            self.assertIs(sum_right(bad, *falling), True)
            self.assertIs(could_right(told, *row[:3], paper), True)
        self.assertLess(time.process_time() - start, 20)

    def test_many_meters_over_2000_rows(self):
        told = (12, tuple((a, b, a, b) for a, b in itertools.product(range(12), repeat=2)) * 13)
        found = tuple((2 + k, tuple((state * k) % (2 + k) for state in range(12))) for k in range(1200))
        start = time.process_time()
        self.assertIs(meters_right(told, found), True)
        self.assertLess(time.process_time() - start, 10)


if __name__ == "__main__":
    unittest.main()
