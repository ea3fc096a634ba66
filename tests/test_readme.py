"""The examples of README.md."""

import unittest

from editlots.branches import Branches
from editlots.counts import self_turnings, tables_count
from editlots.desk import Desk
from editlots.fits import complete
from editlots.forced import could, forced, forced_paper
from editlots.gridtexts import print_grid
from editlots.histories import clash, lots, states
from editlots.judge import order_proof, why
from editlots.kernel import clocks_right, meters_right
from editlots.kinds import kind_of, state_at, table_of
from editlots.likeness import alike
from editlots.meters import meters
from editlots.replicas import Replica
from editlots.ruletexts import read_rules
from editlots.tables import once, product, turn
from editlots.vault import Vault
from editlots.ways import clean_way


class TestReadme(unittest.TestCase):

    def test_judging(self):
        self.assertIs(order_proof(turn(6)), True)
        self.assertEqual(why(turn(6))[:2], ("clocks", (2, 3)))
        self.assertEqual(why(once(2))[0], "clash")
        self.assertEqual(len(why(once(2))), 4)

    def test_histories(self):
        history = (("first", 0), ("edit", 0, 1), ("edit", 0, 1), ("merge", 0, 1, 2))
        self.assertEqual(lots(2, history), ((), (1,), (2,), (1, 2)))
        self.assertEqual(states(turn(2), history), (0, 1, 1, 0))
        self.assertIsNone(clash(turn(2), history))

    def test_kinds_and_told_rows(self):
        kind = ((4,), ((0,), (1,), (3,)))
        self.assertEqual(table_of(kind)[0][1][2], 0)
        self.assertIsNone(table_of(kind)[0][1][1])
        self.assertEqual(state_at(kind, (3,)), 2)
        self.assertIsNone(kind_of(once(2)))
        told = (3, ((0, 1, 1, 2), (0, 2, 2, 0)))
        self.assertIs(meters_right(told, meters(told)), True)
        self.assertIs(clocks_right(turn(4), (4,), ((0,), (1,), (2,), (3,))), True)

    def test_forced_and_counted(self):
        told = (3, ((0, 1, 1, 2), (0, 2, 2, 0)))
        self.assertEqual(forced(told, 2, 1, 1), 0)
        self.assertEqual(forced_paper(told, 2, 1, 1), ("forced", 0, (1, 0)))
        self.assertEqual(could(told, 0, 1, 2), ())
        self.assertIsNone(complete(told))
        self.assertIs(alike(product(turn(2), turn(3)), turn(6)), True)
        self.assertEqual((self_turnings((2, 4)), tables_count(6)), (8, 60))

    def test_vaults_and_branches(self):
        kind = ((4,), ((0,), (1,), (3,)))
        vault = Vault((kind,), (0,))
        self.assertEqual((vault.edit((), (1,)), vault.edit((), (2,))), (0, 1))
        self.assertEqual((vault.record((0, 1)), vault.merged((), (0,), (1,))), ((0,), (0,)))
        self.assertEqual(clean_way(vault, (), ((0,), (1,))), (0, 1))
        branches = Branches(vault)
        branches.start("main", (0,))
        self.assertEqual(branches.commit("main", (0,)), 2)
        branches.back()
        self.assertEqual(branches.head("main"), (0,))
        one, two = Replica("a", (kind,), (0,)), Replica("b", (kind,), (0,))
        self.assertEqual(one.edit((), (1,)), ("a", 0))
        self.assertEqual(two.take(one.packet(())), (("a", 0),))

    def test_texts(self):
        kind = ((4,), ((0,), (1,), (3,)))
        self.assertEqual(read_rules("off on: any any any -> turn"), (("off", "on"), turn(2)))
        self.assertEqual(print_grid(("off", "on"), turn(2)), "off on: off on, on off; on off, off on")
        desk = Desk((kind,), (("zero", "one", "three"),), (0,))
        self.assertEqual(desk.row("commit main one"), "ok 0")
        self.assertEqual(desk.row("record main"), "one")
        self.assertEqual(desk.row("commit main two"), "refused: NoName 12")
        self.assertEqual(desk.row("judge off on: any any any -> turn"), "clocks 2")
        self.assertEqual(desk.text(), "fields 1 | 0 on -: 1 | main 0")


if __name__ == "__main__":
    unittest.main()
