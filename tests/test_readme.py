"""The examples of README.md."""

import unittest

from editlots.counts import self_turnings, tables_count
from editlots.fits import complete
from editlots.forced import could, forced, forced_paper
from editlots.histories import clash, lots, states
from editlots.judge import order_proof, why
from editlots.kernel import clocks_right, meters_right
from editlots.kinds import kind_of, state_at, table_of
from editlots.likeness import alike
from editlots.meters import meters
from editlots.tables import once, product, turn


class TestReadme(unittest.TestCase):

    def test_judging(self):
        self.assertIs(order_proof(turn(6)), True)
        self.assertEqual(why(turn(6))[:2], ("clocks", (2, 3)))
        self.assertEqual(why(once(2))[0], "clash")
        self.assertEqual(len(why(once(2))), 4)

    def test_histories(self):
        history = (("first", 0), ("edit", 0, 1), ("edit", 0, 1), ("merge", 0, 1, 2))
        self.assertEqual(lots(2, history), ((), (1,), (2,), (1, 2)))
        self.assertEqual(states(turn(2), history), (0, 1, 1, 0))
        self.assertIsNone(clash(turn(2), history))

    def test_kinds_and_told_rows(self):
        kind = ((4,), ((0,), (1,), (3,)))
        self.assertEqual(table_of(kind)[0][1][2], 0)
        self.assertIsNone(table_of(kind)[0][1][1])
        self.assertEqual(state_at(kind, (3,)), 2)
        self.assertIsNone(kind_of(once(2)))
        told = (3, ((0, 1, 1, 2), (0, 2, 2, 0)))
        self.assertIs(meters_right(told, meters(told)), True)
        self.assertIs(clocks_right(turn(4), (4,), ((0,), (1,), (2,), (3,))), True)

    def test_forced_and_counted(self):
        told = (3, ((0, 1, 1, 2), (0, 2, 2, 0)))
        self.assertEqual(forced(told, 2, 1, 1), 0)
        self.assertEqual(forced_paper(told, 2, 1, 1), ("forced", 0, (1, 0)))
        self.assertEqual(could(told, 0, 1, 2), ())
        self.assertIsNone(complete(told))
        self.assertIs(alike(product(turn(2), turn(3)), turn(6)), True)
        self.assertEqual((self_turnings((2, 4)), tables_count(6)), (8, 60))


if __name__ == "__main__":
    unittest.main()
