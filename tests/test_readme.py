"""The examples of README.md."""

import unittest

from editlots.histories import clash, lots, states
from editlots.judge import order_proof, why
from editlots.tables import once, turn


class TestReadme(unittest.TestCase):

    def test_judging(self):
        self.assertIs(order_proof(turn(6)), True)
        self.assertEqual(why(turn(6))[:2], ("clocks", (2, 3)))
        self.assertEqual(why(once(2))[0], "clash")
        self.assertEqual(len(why(once(2))), 4)

    def test_histories(self):
        history = (("first", 0), ("edit", 0, 1), ("edit", 0, 1), ("merge", 0, 1, 2))
        self.assertEqual(lots(2, history), ((), (1,), (2,), (1, 2)))
        self.assertEqual(states(turn(2), history), (0, 1, 1, 0))
        self.assertIsNone(clash(turn(2), history))


if __name__ == "__main__":
    unittest.main()
