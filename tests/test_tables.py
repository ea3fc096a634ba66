"""[2] to [4]: tables, gaps and told tables."""

import itertools
import random
import time
import unittest

from editlots.errors import BadMany, BadState, BadTable
from editlots.tables import entry, first_gap, greater, is_table, made_table, many, once, sides, turn

from helpers import all_gaps, Case, changed, nested, ODD, places, random_table, table_by


class TestMade(Case):

    def test_what_is_one(self):
        for n in range(1, 13):
            for table in (turn(n), sides(n), once(n), greater(n), all_gaps(n)):
                self.assertIs(made_table(table), table)
                self.assertIs(is_table(table), True)

    def test_shapes(self):
        two = turn(2)
        wrong = [
            (), two[0], two + (two[0],), (two[0], two[0][0]), (two[0], two[1] + ((0, 1),)), (two[0], two[1][:1]),
            (two[0], ((0, 1), (0,))), (two[0], ((0, 1), (0, 1, 0))), (two[0], ((0, 1), 0)), (two[0], None),
            (two[0], "ab"), (two[0], ("ab", "ab")), ((two[0],),), 5, None, True, "table",
            table_by(13, lambda o, a, b: (a - o + b) % 13), ((0,) * 12,) * 12,
        ]
        for thing in wrong:
            self.refuses(BadTable, -1, made_table, thing)
            self.assertIs(is_table(thing), False)

    def test_shape_ahead_of_entries(self):
        self.refuses(BadTable, -1, made_table, (((5, 0), (0, 1)), ((0, 1), (0,))))

    def test_entries(self):
        for n in (1, 2, 5, 12):
            table = turn(n)
            for place in places(n):
                if n < 12 or sum(place) % 7 == 0:
                    for told in (True, False, n, -1, "0", (), 10 ** 999, (0,)):
                        wrong = changed(table, *place, told)
                        self.refuses(BadTable, place, made_table, wrong)
                        self.assertIs(is_table(wrong), False)
                    self.assertIs(is_table(changed(table, *place, None)), True)
                    self.assertIs(is_table(changed(table, *place, n - 1)), True)

    def test_first_wrong_entry(self):
        source = random.Random(1)
        for _ in range(200):
            n = source.randrange(2, 7)
            wrong = sorted(source.sample(places(n), 2))
            table = all_gaps(n)
            for place in wrong:
                table = changed(table, *place, source.choice((n, True, "a")))
            self.refuses(BadTable, wrong[0], made_table, table)

    def test_judge(self):
        for thing in ODD:
            fits = repr(thing) in ("(((0,),),)", "(((None,),),)")
            self.assertIs(is_table(thing), fits)
            if not fits:
                deep = thing in (nested(49), ((("0",),),)) or repr(thing) == "(((True,),),)"
                self.refuses(BadTable, (0, 0, 0) if deep else -1, made_table, thing)


class TestAsked(Case):

    def test_many(self):
        for n in range(1, 13):
            self.assertEqual(many(turn(n)), n)
            self.assertEqual(many(all_gaps(n)), n)

    def test_entry(self):
        source = random.Random(2)
        for n in (1, 2, 3, 12):
            table = random_table(source, n, 30)
            for o, a, b in places(n):
                if n < 12 or source.randrange(10) == 0:
                    self.assertEqual(repr(entry(table, o, a, b)), repr(table[o][a][b]))

    def test_first_gap(self):
        self.assertIsNone(first_gap(turn(12)))
        self.assertEqual(first_gap(all_gaps(1)), (0, 0, 0))
        self.assertEqual(first_gap(sides(3)), (0, 1, 1))
        for n in (1, 2, 4):
            for place in places(n):
                self.assertEqual(first_gap(changed(turn(n), *place, None)), place)
            for one, two in itertools.combinations(places(n), 2):
                self.assertEqual(first_gap(changed(changed(turn(n), *two, None), *one, None)), one)

    def test_refused(self):
        table = turn(3)
        for call in (many, first_gap):
            self.refuses(BadTable, -1, call, ())
            self.refuses(BadTable, (1, 0, 2), call, changed(table, 1, 0, 2, 3))
        for wrong in (3, -1, True, False, None, "0", (0,), 10 ** 999):
            self.refuses(BadState, wrong, entry, table, wrong, 0, 0)
            self.refuses(BadState, wrong, entry, table, 0, wrong, 0)
            self.refuses(BadState, wrong, entry, table, 0, 0, wrong)
            self.refuses(BadState, wrong, entry, table, wrong, 5, 6)
            self.refuses(BadState, wrong, entry, table, 0, wrong, 6)
            self.refuses(BadTable, -1, entry, (), wrong, wrong, wrong)
        self.refuses(BadTable, (0, 0, 1), entry, changed(table, 0, 0, 1, True), 9, 9, 9)


class TestToldTables(Case):

    def test_examples(self):
        self.assertEqual([call(3)[0][1][1] for call in (turn, sides, once)], [2, None, 1])
        self.assertEqual([call(3)[0][1][2] for call in (turn, once, greater)], [0, None, 2])

    def test_all_entries(self):
        for n in range(1, 13):
            tables = (turn(n), sides(n), once(n), greater(n))
            for o, a, b in places(n):
                one = b if a == o else a if b == o else None
                alike = a if a == b else one
                wanted = ((a - o + b) % n, one, alike, max(a, b) if alike is None else alike)
                self.assertEqual(tuple(table[o][a][b] for table in tables), wanted)

    def test_refused(self):
        for call in (turn, sides, once, greater):
            for wrong in (0, 13, -1, True, False, None, "2", (), 10 ** 999):
                self.refuses(BadMany, wrong, call, wrong)


class TestQuick(Case):

    def test_thousands_of_questions(self):
        table = turn(12)
        start = time.perf_counter()
        for _ in range(2000):
            made_table(table)
            entry(table, 11, 11, 11)
            first_gap(table)
            turn(12)
        self.assertLess(time.perf_counter() - start, 8)


if __name__ == "__main__":
    unittest.main()
