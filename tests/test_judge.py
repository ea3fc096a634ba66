"""[11] to [18] and [20]: order-proof tables, their clocks and hands, and clashes of the others."""

import itertools
import random
import time
import unittest

from editlots.errors import BadTable, Gaps, NotProof, Proof
from editlots.histories import clash, is_history, lots, states
from editlots.judge import coordinates, least_clash, order_proof, why
from editlots.rules import broken
from editlots.tables import greater, once, product, renamed, sides, turn

from helpers import all_gaps, Case, changed, clashes_of, ODD, places, random_history, random_table, table_by
from reckon import breaks_any, spoilt, turned_proof_tables

LATE = (
    ("first", 0), ("edit", 0, 1), ("edit", 1, 0), ("edit", 0, 1), ("merge", 0, 1, 3), ("merge", 1, 2, 4),
    ("merge", 0, 2, 3),
)


class Judged(Case):

    def check_hands(self, table, clocks, hands):
        """The hands are such hands of the table by these clocks."""
        n = len(table)
        self.assertEqual(len(hands), n)
        self.assertEqual(len(set(hands)), n)
        self.assertEqual(hands[0], (0,) * len(clocks))
        for told in hands:
            self.assertEqual(len(told), len(clocks))
            self.assertTrue(all(0 <= hand < clock for hand, clock in zip(told, clocks)))
        for o, a, b in places(n):
            wanted = tuple((x - y + z) % clock for x, y, z, clock in zip(hands[a], hands[o], hands[b], clocks))
            self.assertEqual(hands[table[o][a][b]], wanted)

    def check_clash(self, table, told):
        """What is told is a history of three edits at most, and the least pair that clashes in it."""
        history, i, j = told
        self.assertIs(is_history(len(table), history), True)
        self.assertLessEqual(len([row for row in history if row[0] == "edit"]), 3)
        self.assertEqual(clashes_of(table, history)[0], (i, j))
        self.assertEqual(clash(table, history), (i, j))

    def check_not_proof(self, table):
        """The table is judged not to be order-proof, in all ways."""
        self.assertIs(order_proof(table), False)
        self.refuses(NotProof, 0, coordinates, table)
        told = least_clash(table)
        self.check_clash(table, told)
        self.assertEqual(why(table), ("clash",) + told)
        self.assertEqual(least_clash(table), told)

    def check_proof(self, table, clocks):
        """The table is judged to be order-proof with these clocks, in all ways."""
        self.assertIs(order_proof(table), True)
        self.refuses(Proof, 0, least_clash, table)
        found, hands = coordinates(table)
        self.assertEqual(found, clocks)
        self.check_hands(table, found, hands)
        self.assertEqual(why(table), ("clocks", found, hands))
        self.assertEqual(coordinates(table), (found, hands))


class TestExamples(Judged):

    def test_once(self):
        self.check_not_proof(once(2))
        self.assertEqual(states(once(2), LATE), (0, 1, 0, 1, 1, 0, 1))
        self.assertEqual(lots(2, LATE), ((), (1,), (1, 2), (3,), (1, 3), (1, 2, 3), (1, 2, 3)))
        self.assertEqual(clash(once(2), LATE), (5, 6))

    def test_turns(self):
        self.check_proof(turn(2), (2,))
        self.assertEqual(coordinates(turn(2)), ((2,), ((0,), (1,))))
        self.check_proof(turn(6), (2, 3))
        self.check_hands(turn(6), (2, 3), ((0, 0), (1, 1), (0, 2), (1, 0), (0, 1), (1, 2)))
        self.check_proof(product(turn(2), turn(2)), (2, 2))
        self.check_proof(turn(4), (4,))

    def test_one_state(self):
        self.check_proof((((0,),),), ())
        self.assertEqual(coordinates((((0,),),)), ((), ((),)))
        self.assertEqual(why((((0,),),)), ("clocks", (), ((),)))


class TestJudge(Judged):

    def test_order_proof_tables(self):
        for clocks, table in turned_proof_tables():
            self.check_proof(table, clocks)

    def test_one_entry_otherwise(self):
        source = random.Random(1)
        for _, table in turned_proof_tables():
            if len(table) > 1:
                for _ in range(5):
                    self.check_not_proof(spoilt(source, table))

    def test_each_entry_otherwise(self):
        for n in (2, 3, 4):
            for place in places(n):
                o, a, b = place
                for told in range(n):
                    if told != turn(n)[o][a][b]:
                        self.check_not_proof(changed(turn(n), o, a, b, told))

    def test_all_tables_of_two_states(self):
        for told in itertools.product((0, 1), repeat=8):
            table = table_by(2, lambda o, a, b: told[4 * o + 2 * a + b])
            if table == turn(2):
                self.check_proof(table, (2,))
            else:
                self.check_not_proof(table)

    def test_any_tables(self):
        source = random.Random(2)
        for _ in range(200):
            table = random_table(source, source.randrange(3, 7), 0)
            self.check_not_proof(table)
            self.assertIsNotNone(broken(table))

    def test_told_tables(self):
        for n in range(2, 13):
            self.check_not_proof(greater(n))
        self.check_not_proof(once(2))

    def test_how_many_there_are_of_three_and_four_states(self):
        # 1 and 4, in any names: each is told, and they are told to be so.
        found = {renamed(turn(3), names) for names in itertools.permutations(range(3))}
        self.assertEqual(len(found), 1)
        found = set()
        for names in itertools.permutations(range(4)):
            found.add(renamed(turn(4), names))
            found.add(renamed(product(turn(2), turn(2)), names))
        self.assertEqual(len(found), 4)
        self.assertEqual(sorted(coordinates(table)[0] for table in found), [(2, 2), (4,), (4,), (4,)])

    def test_no_history_of_an_order_proof_table_clashes(self):
        source = random.Random(3)
        for clocks, table in turned_proof_tables():
            for _ in range(5):
                history = random_history(source, len(table), 25)
                self.assertEqual(clashes_of(table, history), [])

    def test_states_are_steps_added(self):
        source = random.Random(4)
        for clocks, table in turned_proof_tables():
            hands = coordinates(table)[1]
            history = random_history(source, len(table), 20)
            told = states(table, history)
            steps = {}
            for number, row in enumerate(history):
                if row[0] == "edit":
                    old, new = hands[told[row[1]]], hands[row[2]]
                    steps[number] = tuple(x - y for x, y in zip(new, old))
            for version, lot in enumerate(lots(len(table), history)):
                total = hands[history[0][1]]
                for edit in lot:
                    total = tuple(x + y for x, y in zip(total, steps[edit]))
                self.assertEqual(tuple(x % y for x, y in zip(total, clocks)), hands[told[version]])

    def test_refused(self):
        for call in (order_proof, least_clash, coordinates, why):
            self.refuses(BadTable, -1, call, ())
            self.refuses(BadTable, (1, 1, 1), call, changed(all_gaps(2), 1, 1, 1, 2))
            self.refuses(BadTable, (0, 0, 0), call, (((False,),),))
            self.refuses(Gaps, (0, 0, 0), call, all_gaps(1))
            self.refuses(Gaps, (0, 1, 1), call, sides(2))
            for place in places(3):
                self.refuses(Gaps, place, call, changed(turn(3), *place, None))
                self.refuses(Gaps, place, call, changed(greater(3), *place, None))
            for thing in ODD:
                if repr(thing) not in ("(((0,),),)", "(((None,),),)"):
                    with self.assertRaises(BadTable):
                        call(thing)

    def test_rules_and_order_proof_are_one(self):
        source = random.Random(5)
        for _ in range(100):
            table = random_table(source, 2, 0)
            self.assertIs(order_proof(table), not breaks_any(table))


class TestQuick(Case):

    def test_thousands(self):
        source = random.Random(6)
        tables = [table for _, table in turned_proof_tables() if len(table) == 12]
        tables += [spoilt(source, table) for table in tables] + [greater(12)]
        start = time.perf_counter()
        for at in range(1000):
            table = tables[at % len(tables)]
            order_proof(table)
            if why(table)[0] == "clocks":
                coordinates(table)
        self.assertLess(time.perf_counter() - start, 6)


if __name__ == "__main__":
    unittest.main()
