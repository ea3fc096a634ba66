"""[0] to [0.3]: the whole program; what one part tells is what another part goes on with."""

import random
import unittest

from editlots.branches import Branches
from editlots.desk import Desk
from editlots.forced import forced, known
from editlots.gridtexts import print_grid, read_grid
from editlots.histories import clash, lots, states
from editlots.historytexts import print_history, read_history
from editlots.judge import why
from editlots.kernel import clash_right, clocks_right
from editlots.kinds import kind_of, table_of
from editlots.kindtexts import print_kind, read_kind
from editlots.lotwork import joined
from editlots.replicas import Replica
from editlots.ruletexts import print_told, read_rules, read_told
from editlots.tables import entry, greater, once, turn
from editlots.told import can, told_of
from editlots.vault import Vault

from drawn import random_fields, random_lot, random_record, random_vault
from helpers import Case, outcome, random_history, random_table
from reckon import spoilt, turned_proof_tables
from textcase import LETTERS, NAME_SETS


def plain(thing):
    """Whether it is built of tuples, numbers, texts, bools and None alone."""
    if type(thing) is tuple:
        return all(plain(part) for part in thing)
    return thing is None or type(thing) in (int, str, bool)


def kept_in_vault(kind, history):
    """A vault in which the history is kept, and for each version its lot there."""
    vault = Vault((kind,), (history[0][1],))
    kept = []
    for row in history:
        if row[0] == "first":
            kept.append(())
        elif row[0] == "edit":
            of = kept[row[1]]
            kept.append(joined(of, (vault.edit(of, (row[2],)),)))
        else:
            kept.append(joined(kept[row[2]], kept[row[3]]))
    return vault, kept


class TestTablesToVaults(Case):

    def check_vault(self, kind, history, told):
        """Whatever the table tells of a version is the record of its lot in a vault, and in replicas."""
        vault, kept = kept_in_vault(kind, history)
        for number, state in enumerate(told):
            if state is not None:
                self.assertEqual(vault.record(kept[number]), (state,))
        for i, one in enumerate(lots(len(kind[1]), history)):
            for j, two in enumerate(lots(len(kind[1]), history)):
                # One lot here is one lot there.
                self.assertEqual(one == two, kept[i] == kept[j])
        return vault, kept

    def check_replicas(self, source, vault, kept):
        """Three hands make the vault's edits, by turns, and tell each other all; each tells the same then."""
        replicas = [Replica(hand, vault.fields(), vault.first()) for hand in ("x", "y", "z")]
        ids = []
        for edit in range(vault.edits()):
            maker = source.choice(replicas)
            for other in replicas:
                maker.take(other.packet(maker.known()))
            lot = tuple(sorted(ids[told] for told in vault.made_on(edit)))
            ids.append(maker.edit(lot, vault.record(joined(vault.made_on(edit), (edit,)))))
        for one in replicas:
            for other in replicas:
                one.take(other.packet(()))
            for lot in kept:
                told = tuple(sorted(ids[edit] for edit in lot))
                self.assertEqual((one.amounts(told), one.record(told)), (vault.amounts(lot), vault.record(lot)))

    def check_desk(self, names, history, vault, kept):
        """The rows of a desk keep the same edits and lots."""
        desk = Desk(vault.fields(), (names,), vault.first())
        for number, row in enumerate(history):
            # Branches are called by the numbers of the versions.
            if row[0] == "merge":
                desk.row("start v%d %s" % (number, desk.row("head v%d" % row[2])))
                desk.row("merge v%d v%d" % (number, row[3]))
            elif row[0] == "edit":
                desk.row("start v%d %s" % (number, desk.row("head v%d" % row[1])))
                self.assertTrue(desk.row("commit v%d %s" % (number, names[row[2]])).startswith("ok "))
            else:
                desk.row("start v0 -")
            state = vault.record(kept[number])[0]
            self.assertEqual(desk.row("record v%d" % number), "gap" if state is None else names[state])
            self.assertEqual(desk.branches.head("v%d" % number), kept[number])

    def test_order_proof_tables(self):
        source = random.Random(70)
        for clocks, table in turned_proof_tables():
            n = len(table)
            names = tuple(source.sample(source.choice(NAME_SETS), n))
            grid = print_grid(names, table)
            if len(grid) <= 20000:
                self.assertEqual(read_grid(grid), (names, table))
            paper = why(table)
            self.assertEqual(paper[:2], ("clocks", clocks))
            self.assertTrue(clocks_right(table, *paper[1:]))
            self.assertEqual(read_kind(print_kind(names, (clocks, paper[2]))), (names, (clocks, paper[2])))
            for kind in ((clocks, paper[2]), kind_of(table)):
                self.assertEqual(table_of(kind), table)
                text = print_history(names, random_history(source, n, 12))
                history = read_history(names, text)
                self.assertIsNone(clash(table, history))
                told = states(table, history)
                self.assertNotIn(None, told)
                vault, kept = self.check_vault(kind, history, told)
                self.check_replicas(source, vault, kept)
                self.check_desk(names, history, vault, kept)

    def test_tables_with_gaps(self):
        source = random.Random(71)
        for kind in random_fields(source, 40):
            n = len(kind[1])
            names = tuple(source.sample(LETTERS, n))
            table = table_of(kind)
            self.assertEqual(read_grid(print_grid(names, table)), (names, table))
            self.assertEqual(table_of(kind_of(table))[0][0], table[0][0])
            for rows in (8, 25):
                history = random_history(source, n, rows)
                self.assertIsNone(clash(table, history))
                vault, kept = self.check_vault(kind, history, states(table, history))
                self.check_replicas(source, vault, kept)
                self.check_desk(names, history, vault, kept)

    def test_kinds_of_what_is_told(self):
        # What told rows force is so in any kind of a table that tells them.
        source = random.Random(72)
        for _ in range(60):
            n = source.randrange(2, 6)
            names = LETTERS[:n]
            rows = told_of(turn(n))[1]
            told = (n, tuple(source.sample(rows, source.randrange(len(rows) // 2))))
            self.assertEqual(read_told(print_told(names, told)), (names, told))
            self.assertTrue(can(told))
            table = known(told)
            kind = kind_of(table)
            made = table_of(kind)
            for o, a, b, c in told_of(table)[1]:
                self.assertEqual((entry(made, o, a, b), forced(told, o, a, b)), (c, c))
                self.assertEqual(entry(turn(n), o, a, b), c)


class TestTablesThatClash(Case):

    def test_the_clash_is_told_as_a_text(self):
        source = random.Random(73)
        tables = [once(n) for n in range(2, 13)] + [greater(n) for n in range(2, 13)]
        tables += [spoilt(source, table) for _, table in turned_proof_tables() if len(table) > 1]
        for table in tables:
            n = len(table)
            names = tuple(source.sample(source.choice(NAME_SETS), n))
            if any(None in row for base in table for row in base):
                self.assertEqual(outcome(why, table)[0], "Gaps")
                continue
            kind, history, i, j = why(table)
            self.assertEqual(kind, "clash")
            told = read_history(names, print_history(names, history))
            self.assertTrue(clash_right(table, told, i, j))
            self.assertEqual(clash(table, told), (i, j))
            # No kind tells such a table, so no vault keeps it.
            self.assertIsNone(kind_of(table))

    def test_rules_beside_the_desk(self):
        # The desk judges what read_rules tells.
        desk = Desk((((), ((),)),), (("x",),), (0,))
        for text in (
            "off on: X X Y -> Y; X Y X -> Y; X Y Y -> Y", "a b c: any any any -> turn",
            "a b c: X Y Y -> Y; any any any -> turn",
            "a b c d: X X Y -> Y; X Y X -> Y; any any any -> a",
        ):
            names, table = read_rules(text)
            paper = why(table)
            if paper[0] == "clocks":
                wanted = "clocks " + " ".join(map(str, paper[1]))
            else:
                wanted = "clash %s | %d %d" % (print_history(names, paper[1]), *paper[2:])
            self.assertEqual(desk.row("judge " + text), wanted)


class TestGeneralRules(Case):

    def test_only_plain_things_are_returned(self):
        source = random.Random(74)
        fields = random_fields(source, 2)
        vault = random_vault(source, fields, 6)
        branches = Branches(vault)
        replica = Replica("a", fields, vault.first())
        branches.start("main", (0, 2))
        replica.edit((), vault.first())
        replica.set_head("main", (("a", 0),))
        lot = random_lot(source, range(6))
        for thing in (
            vault.fields(), vault.first(), vault.edits(), vault.steps_of(3), vault.made_on(3), vault.amounts(lot),
            vault.record(lot),
            vault.barred(lot), vault.merged(lot, lot, lot), branches.names(), branches.head("main"), branches.log("main"),
            branches.commit("main", vault.first()), replica.known(), replica.amounts(()), replica.record(()),
            replica.barred(()),
            replica.packet(()), replica.take(()), replica.head("main"), replica.heads(), replica.edit((), vault.first()),
            read_grid("a b: a b, b gap; b a, a b"), read_rules("a: any any any -> a"), read_told("a: a a a -> a"),
            read_history(("a",), "first a; edit 0 a"), read_kind("a b: sizes 4: 0, 1"),
        ):
            self.assertTrue(plain(thing), thing)
        nothing = (
            branches.start("b", ()), branches.merge("b", "main"), branches.pick("b", 1), branches.take_out("b", 1),
            branches.drop("b"),
            branches.back(), branches.again(), replica.set_head("b", ()), replica.hear(()),
        )
        self.assertEqual(set(nothing), {None})

    def test_equal_calls_return_equal_things(self):
        source = random.Random(75)
        for _ in range(20):
            table = random_table(source, 4, 60)
            self.assertEqual(outcome(kind_of, table), outcome(kind_of, table))
            fields = random_fields(source, 2)
            record = random_record(source, fields)
            rows = ("commit main x", "names", "log main", "record main", "barred main")
            desks = [Desk(fields, tuple(LETTERS[:len(hands)] for _, hands in fields), record) for _ in range(2)]
            for row in rows + ("commit main a a", "start b 0") + rows:
                self.assertEqual(desks[0].row(row), desks[1].row(row))
            self.assertEqual(desks[0].text(), desks[1].text())


if __name__ == "__main__":
    unittest.main()
