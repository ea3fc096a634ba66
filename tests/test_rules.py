"""[11] to [13]: rules, and which of them a table breaks."""

import itertools
import random
import unittest

from editlots.errors import BadTable, Gaps
from editlots.rules import broken
from editlots.tables import greater, once, sides, turn

from helpers import all_gaps, Case, changed, ODD, places, random_table, table_by
from reckon import all_rules, breaks, breaks_any, spoilt, turned_proof_tables


class TestBroken(Case):

    def check(self, table):
        """The rule told is one of the table's states and is broken, and none is told just if none is."""
        rule = broken(table)
        if rule is None:
            self.assertFalse(breaks_any(table))
        else:
            self.assertIn(rule, all_rules(len(table)))
            self.assertTrue(breaks(table, rule), rule)
        self.assertEqual(broken(table), rule)

    def test_example(self):
        self.assertTrue(breaks(once(2), ("late", 0, 1, 1, 0)))
        self.assertEqual(once(2)[0][1][1], 1)
        self.assertEqual(once(2)[1][0][1], 0)
        self.assertEqual(once(2)[0][0][1], 1)
        self.check(once(2))
        self.assertIsNotNone(broken(once(2)))

    def test_all_tables_of_one_and_two_states(self):
        self.assertIsNone(broken((((0,),),)))
        proof = 0
        for told in itertools.product((0, 1), repeat=8):
            table = table_by(2, lambda o, a, b: told[4 * o + 2 * a + b])
            self.check(table)
            proof += broken(table) is None
        self.assertEqual(proof, 1)

    def test_tables_without_broken_rules(self):
        for _, table in turned_proof_tables():
            self.assertIsNone(broken(table))

    def test_one_entry_otherwise(self):
        for n in (2, 3, 4):
            for place in places(n):
                for told in range(n):
                    self.check(changed(turn(n), *place, told))
        source = random.Random(1)
        for _, table in turned_proof_tables():
            if len(table) > 1:
                for _ in range(10):
                    other = spoilt(source, table)
                    self.assertTrue(breaks(other, broken(other)))

    def test_each_kind_of_rule(self):
        # Only still and late: the sides can be exchanged everywhere.
        self.assertIn(broken(table_by(3, lambda o, a, b: 0))[0], ("still", "late"))
        # Only late: sides that stand still yield, and can be exchanged.
        for n in range(2, 13):
            self.assertEqual(broken(greater(n))[0], "late")
            self.assertTrue(breaks(greater(n), broken(greater(n))))
        # Only turned and late.
        one_side = table_by(4, lambda o, a, b: b if a == o else a)
        self.assertIn(broken(one_side)[0], ("turned", "late"))
        self.assertTrue(breaks(one_side, broken(one_side)))

    def test_any_tables(self):
        source = random.Random(2)
        for _ in range(300):
            self.check(random_table(source, source.randrange(1, 5), 0))

    def test_tables_that_can_be_exchanged(self):
        source = random.Random(3)
        for _ in range(300):
            n = source.randrange(2, 5)
            told = {}
            for o, a, b in places(n):
                still = b if a == o else a if b == o else source.randrange(n)
                told[(o, min(a, b), max(a, b))] = still
            self.check(table_by(n, lambda o, a, b: told[(o, min(a, b), max(a, b))]))

    def test_refused(self):
        for thing in ODD:
            if repr(thing) not in ("(((0,),),)", "(((None,),),)"):
                with self.assertRaises(BadTable):
                    broken(thing)
        self.refuses(BadTable, -1, broken, ())
        self.refuses(BadTable, (0, 1, 1), broken, changed(all_gaps(2), 0, 1, 1, True))
        self.refuses(Gaps, (0, 0, 0), broken, (((None,),),))
        self.refuses(Gaps, (0, 1, 1), broken, sides(2))
        self.refuses(Gaps, (1, 1, 0), broken, changed(turn(2), 1, 1, 0, None))


if __name__ == "__main__":
    unittest.main()
