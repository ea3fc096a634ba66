"""[7] to [10]: histories, lots, states and clashes."""

import random
import time
import unittest

from editlots.errors import BadBase, BadHistory, BadMany, BadTable
from editlots.histories import clash, is_history, lots, made_history, states
from editlots.tables import once, sides, turn

from helpers import (
    all_gaps, Case, changed, clashes_of, lots_by_sets, nested, ODD, random_history, random_table, states_one_by_one,
)

H = (
    ("first", 0), ("edit", 0, 1), ("edit", 1, 0), ("edit", 0, 1), ("merge", 0, 1, 3), ("merge", 1, 2, 4),
    ("merge", 0, 2, 3),
)
WRONG_MANY = (0, 13, -1, True, False, None, "2", (), 10 ** 999)


class TestForm(Case):

    def refused_row(self, n, thing, number):
        self.refuses(BadHistory, number, made_history, n, thing)
        self.refuses(BadHistory, number, lots, n, thing)
        self.refuses(BadHistory, number, states, turn(n), thing)
        self.refuses(BadHistory, number, clash, turn(n), thing)
        self.assertIs(is_history(n, thing), False)

    def test_what_is_one(self):
        source = random.Random(1)
        for _ in range(200):
            n = source.randrange(1, 13)
            history = random_history(source, n, source.randrange(1, 41))
            self.assertIs(made_history(n, history), history)
            self.assertIs(is_history(n, history), True)

    def test_how_many_rows(self):
        for rows in (1, 2, 39, 40):
            history = (("first", 0),) + (("edit", 0, 0),) * (rows - 1)
            self.assertIs(made_history(1, history), history)
            self.assertIs(is_history(1, history), True)
        self.refused_row(1, (), -1)
        self.refused_row(1, (("first", 0),) + (("edit", 0, 0),) * 40, -1)
        # A wrong row is not told where there are too many.
        self.refused_row(1, (("first", 5),) * 41, -1)
        for thing in (None, True, 3, "first", "first 0"):
            self.refused_row(2, thing, -1)

    def test_first_row(self):
        for row in (
            ("first", 2), ("first", -1), ("first", True), ("first", False), ("first", None), ("first", "0"), ("first",),
            ("first", 0, 0), ("edit", 0, 0), ("merge", 0, 0, 0), (), None, "first", 0, (0, "first"), ("First", 0),
            ("first", (0,)), ("first", 10 ** 999), ((), 0), (None, 0), (True, 0), nested(40),
        ):
            self.refused_row(2, (row,), 0)
            self.refused_row(2, (row, ("edit", 0, 5)), 0)

    def test_edits(self):
        for row in (
            ("edit", 0, 2), ("edit", 0, -1), ("edit", 0, True), ("edit", 0, None), ("edit", 2, 0), ("edit", 3, 0),
            ("edit", -1, 0), ("edit", False, 0), ("edit", "0", 0), ("edit", (), 0), ("edit", 0), ("edit", 0, 0, 0),
            ("first", 0), ("first", 0, 0), ("merge", 0, 0), (), None, 7, ("edit", None, 0), (0, 0, 0), ("edit", 10 ** 999, 0),
        ):
            self.refused_row(2, (("first", 0), ("edit", 0, 1), row), 2)
        self.assertIs(is_history(2, (("first", 0), ("edit", 0, 1), ("edit", 1, 1))), True)

    def test_merges(self):
        for wrong in (2, 3, -1, True, False, None, "0", (0,), 10 ** 999):
            for row in (("merge", wrong, 0, 0), ("merge", 0, wrong, 0), ("merge", 0, 0, wrong)):
                self.refused_row(2, (("first", 0), ("edit", 0, 1), row), 2)
        for row in (("merge", 0, 0), ("merge", 0, 0, 0, 0), ("edit", 0, 0, 0), ("Merge", 0, 0, 0), (0, 0, 0, 0)):
            self.refused_row(2, (("first", 0), ("edit", 0, 1), row), 2)
        self.assertIs(is_history(2, (("first", 0), ("merge", 0, 0, 0))), True)

    def test_first_wrong_row(self):
        self.refused_row(2, (("first", 0), ("edit", 0, 2), ("edit", 9, 0)), 1)
        self.refused_row(2, (("first", 0), ("edit", 0, 1), ("edit", 9, 0), 5), 2)

    def test_states_of_the_table(self):
        for n in range(1, 13):
            self.assertIs(is_history(n, (("first", n - 1), ("edit", 0, n - 1))), True)
            self.refused_row(n, (("first", n),), 0)
            self.refused_row(n, (("first", 0), ("edit", 0, n)), 1)

    def test_many(self):
        for wrong in WRONG_MANY:
            for thing in ((), H, None, (("first", 5),)):
                self.refuses(BadMany, wrong, made_history, wrong, thing)
                self.refuses(BadMany, wrong, lots, wrong, thing)
                self.assertIs(is_history(wrong, thing), False)
        self.assertEqual(lots(1, (("first", 0),)), ((),))
        self.assertEqual(lots(12, (("first", 11),)), ((),))

    def test_judge(self):
        for thing in ODD:
            self.assertIs(is_history(2, thing), repr(thing) == "(('first', 0),)")
            self.assertIs(is_history(thing, (("first", 0),)), repr(thing) in ("1", "2"))
            self.assertIs(is_history(2, (("first", 0), thing)), False)
            self.assertIs(is_history(2, (("first", 0), (thing, 0, 0))), False)
            self.assertIs(is_history(2, (("first", 0), ("edit", thing, 0))), repr(thing) == "0")


class TestBases(Case):

    def test_example(self):
        wrong = H[:5] + (("merge", 0, 2, 4),) + H[6:]
        self.refuses(BadBase, 5, made_history, 2, wrong)
        self.refuses(BadBase, 5, lots, 2, wrong)
        self.refuses(BadBase, 5, states, turn(2), wrong)
        self.refuses(BadBase, 5, clash, turn(2), wrong)
        self.assertIs(is_history(2, wrong), False)

    def test_any_merge(self):
        source = random.Random(2)
        rights = wrongs = 0
        for _ in range(400):
            history = list(random_history(source, 3, 8))
            for number in range(8, 14):
                history.append(("merge",) + tuple(source.randrange(number) for _ in range(3)))
            history = tuple(history[:source.randrange(9, 14)])
            _, wrong = lots_by_sets(history)
            if wrong is None:
                rights += 1
                self.assertIs(made_history(3, history), history)
            else:
                wrongs += 1
                self.refuses(BadBase, wrong, made_history, 3, history)
            self.assertIs(is_history(3, history), wrong is None)
        self.assertGreater(min(rights, wrongs), 20)

    def test_another_version_with_the_same_lot(self):
        history = H + (("merge", 5, 6, 6), ("merge", 6, 5, 5), ("edit", 5, 0), ("edit", 6, 1), ("merge", 5, 9, 10))
        for base in (5, 6, 7, 8):
            other = history[:-1] + (("merge", base, 9, 10),)
            self.assertIs(made_history(2, other), other)
        self.refuses(BadBase, 11, made_history, 2, history[:-1] + (("merge", 4, 9, 10),))

    def test_rows_are_told_ahead_of_bases(self):
        wrong = (("first", 0), ("edit", 0, 1), ("merge", 0, 1, 1), ("edit", 0, 2))
        self.refuses(BadHistory, 3, made_history, 2, wrong)
        self.refuses(BadBase, 2, made_history, 2, wrong[:3])
        two = (("first", 0), ("edit", 0, 1), ("merge", 0, 1, 1), ("merge", 0, 1, 1))
        self.refuses(BadBase, 2, made_history, 2, two)


class TestLots(Case):

    def test_example(self):
        self.assertEqual(lots(2, H), ((), (1,), (1, 2), (3,), (1, 3), (1, 2, 3), (1, 2, 3)))

    def test_any_histories(self):
        source = random.Random(3)
        for _ in range(200):
            history = random_history(source, 4, source.randrange(1, 41))
            self.assertEqual(lots(4, history), tuple(lots_by_sets(history)[0]))

    def test_two_edits_to_one_state_are_two(self):
        self.assertEqual(lots(1, (("first", 0), ("edit", 0, 0), ("edit", 0, 0))), ((), (1,), (2,)))


class TestStates(Case):

    def test_examples(self):
        self.assertEqual(states(once(2), H), (0, 1, 0, 1, 1, 0, 1))
        self.assertEqual(states(turn(2), H), (0, 1, 0, 1, 0, 1, 1))
        self.assertEqual(states(sides(2), H), (0, 1, 0, 1, None, None, 1))

    def test_an_edit_of_a_version_without_state(self):
        history = H[:5] + (("edit", 4, 0), ("merge", 4, 4, 5), ("edit", 3, 1))
        self.assertEqual(states(sides(2), history), (0, 1, 0, 1, None, None, None, 1))

    def test_any_histories(self):
        source = random.Random(4)
        for _ in range(300):
            n = source.randrange(1, 5)
            history = random_history(source, n, source.randrange(1, 41))
            table = random_table(source, n, source.choice((0, 10, 100)))
            self.assertEqual(states(table, history), states_one_by_one(table, history))

    def test_refused(self):
        bad = changed(turn(2), 1, 0, 1, 2)
        for call in (states, clash):
            self.refuses(BadTable, (1, 0, 1), call, bad, ())
            self.refuses(BadTable, -1, call, (), H[:5] + (("merge", 0, 2, 4),))
            self.refuses(BadHistory, -1, call, turn(2), ())
            self.refuses(BadHistory, 1, call, turn(1), H)


class TestClash(Case):

    def test_examples(self):
        self.assertEqual(clash(once(2), H), (5, 6))
        self.assertIsNone(clash(turn(2), H))
        self.assertIsNone(clash(sides(2), H))

    def test_any_histories(self):
        source = random.Random(5)
        some = 0
        for _ in range(500):
            n = source.randrange(1, 4)
            history = random_history(source, n, source.randrange(1, 41))
            table = random_table(source, n, source.choice((0, 30, 60)))
            wanted = clashes_of(table, history)
            self.assertEqual(clash(table, history), wanted[0] if wanted else None)
            some += bool(wanted)
        self.assertGreater(some, 50)

    def test_least_pair(self):
        table = changed(turn(3), 0, 0, 0, 1)
        history = (("first", 0), ("edit", 0, 2), ("merge", 1, 1, 1), ("merge", 0, 0, 0), ("merge", 0, 0, 0))
        self.assertEqual(states(table, history), (0, 2, 2, 1, 1))
        self.assertEqual(clash(table, history), (0, 3))
        self.assertIsNone(clash(all_gaps(3), history))

    def test_nothing_clashes_by_turn(self):
        source = random.Random(6)
        for _ in range(300):
            n = source.randrange(1, 13)
            self.assertIsNone(clash(turn(n), random_history(source, n, 40)))


class TestQuick(Case):

    def test_thousands(self):
        table = turn(12)
        history = random_history(random.Random(7), 12, 40)
        start = time.perf_counter()
        for _ in range(2000):
            is_history(12, history)
            lots(12, history)
            clash(table, history)
        self.assertLess(time.perf_counter() - start, 8)


if __name__ == "__main__":
    unittest.main()
