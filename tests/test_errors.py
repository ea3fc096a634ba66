"""[0.2]: the errors, and the interface of each file."""

import inspect
import unittest

from editlots import (
    branches, clocks, counts, desk, errors, fits, forced, gridtexts, groups, histories, historytexts, judge, kernel, kinds,
    kindtexts, likeness, lotwork, meters, numbers, records, replicas, rules, ruletexts, tables, told, vault, ways, wholerows,
)

NAMES = (
    "BadMany BadTable BadState BadNames TooMany BadHistory BadBase Gaps Proof NotProof BadClocks BadRows BadRow "
    "BadTold Can Fallen BadKind BadAmount BadFields BadRecord BadLot Full NoEdit BadName HasBranch NoBranch HasEdit "
    "LacksEdit NothingBack NothingAgain Missing BadPacket Unlike BadParts CleanWay BadText NoName Twice NoVariable"
).split()

INTERFACE = {
    numbers: {"is_prime": "n", "powers": "n"},
    tables: {
        "made_table": "thing", "is_table": "thing", "many": "table", "entry": "table o a b", "first_gap": "table",
        "turn": "n", "sides": "n", "once": "n", "greater": "n", "product": "one two", "halves": "table m",
        "renamed": "table names",
    },
    histories: {
        "made_history": "n thing", "is_history": "n thing", "lots": "n history", "states": "table history",
        "clash": "table history",
    },
    rules: {"broken": "table"},
    judge: {"order_proof": "table", "least_clash": "table", "coordinates": "table", "why": "table"},
    clocks: {"made_clocks": "thing", "kinds": "n", "table_of_clocks": "clocks"},
    wholerows: {"span_factors": "rows many target", "scales": "rows many"},
    told: {"made_told": "thing", "told_of": "table", "fallen": "told", "can": "told", "no_paper": "told"},
    kernel: {
        "clocks_right": "table clocks hands", "clash_right": "table history i j", "names_right": "one two names",
        "sum_right": "told x y factors", "meters_right": "told meters", "forced_right": "told o a b c factors",
        "beyond_right": "told o a b meters", "could_right": "told o a b paper",
        "way_right": "kinds amounts steps order", "blocked_right": "kinds amounts steps stands",
    },
    groups: {"plus": "table a b", "back": "table a", "order_of": "table a"},
    meters: {"meters": "told", "difference_sizes": "told"},
    kinds: {
        "made_kind": "thing", "is_kind": "thing", "made_amount": "kind thing", "amount": "kind state",
        "state_at": "kind amount", "moved": "kind amount step", "step": "kind one two", "table_of": "kind",
        "kind_of": "table",
    },
    records: {"made_fields": "thing", "made_record": "fields thing"},
    likeness: {"names": "one two", "alike": "one two"},
    counts: {"self_turnings": "clocks", "tables_count": "n"},
    forced: {
        "forced": "told o a b", "forced_paper": "told o a b", "known": "told", "could": "told o a b",
        "could_paper": "told o a b",
    },
    fits: {"complete": "told"},
    lotwork: {"made_lot": "many thing", "joined": "one two", "common": "one two", "lacking": "one two"},
    ways: {"part_steps": "vault lot parts", "clean_way": "vault lot parts", "blocked": "vault lot parts"},
    gridtexts: {"read_grid": "text", "print_grid": "names table"},
    ruletexts: {"read_rules": "text", "read_told": "text", "print_told": "names told"},
    historytexts: {"read_history": "names text", "print_history": "names history"},
    kindtexts: {"read_kind": "text", "print_kind": "names kind"},
}

CLASSES = {
    (vault, "Vault"): {
        "__init__": "fields record", "edit": "lot record", "edits": "", "steps_of": "edit", "made_on": "edit", "amounts": "lot",
        "record": "lot", "barred": "lot", "merged": "base one two", "fields": "", "first": "",
    },
    (branches, "Branches"): {
        "__init__": "vault", "names": "", "head": "name", "start": "name lot", "commit": "name record", "merge": "name other",
        "pick": "name edit", "take_out": "name edit", "drop": "name", "log": "name", "back": "", "again": "",
    },
    (replicas, "Replica"): {
        "__init__": "hand fields record", "edit": "lot record", "known": "", "amounts": "lot", "record": "lot", "barred": "lot",
        "packet": "ids", "take": "packet", "set_head": "name lot", "head": "name", "heads": "", "hear": "heads",
    },
    (desk, "Desk"): {"__init__": "fields names record", "row": "text", "text": ""},
}


class TestErrors(unittest.TestCase):

    def test_refused(self):
        self.assertEqual(errors.Refused.__bases__, (ValueError,))
        for what in (-1, (0, 1, 2), None, "a", True):
            self.assertIs(errors.Refused(what).what, what)
            self.assertIs(errors.Refused(what=what).what, what)

    def test_all_stand_under_refused_alone(self):
        for name in NAMES:
            error = getattr(errors, name)
            self.assertEqual(error.__bases__, (errors.Refused,), name)
            self.assertEqual(error.__module__, "editlots.errors")
            self.assertEqual(error((1, 2)).what, (1, 2))
            self.assertEqual(error(what=3).what, 3)

    def test_one_argument(self):
        for name in NAMES + ["Refused"]:
            with self.assertRaises(TypeError):
                getattr(errors, name)()
            with self.assertRaises(TypeError):
                getattr(errors, name)(1, 2)


class TestInterface(unittest.TestCase):

    def test_functions_stand_in_their_files(self):
        for module, functions in INTERFACE.items():
            for name, arguments in functions.items():
                function = getattr(module, name)
                self.assertTrue(inspect.isfunction(function), name)
                self.assertEqual(function.__module__, module.__name__, name)
                self.assertEqual(list(inspect.signature(function).parameters), arguments.split(), name)

    def test_classes_stand_in_their_files(self):
        for (module, name), methods in CLASSES.items():
            found = getattr(module, name)
            self.assertTrue(inspect.isclass(found), name)
            self.assertEqual(found.__module__, module.__name__)
            for method, arguments in methods.items():
                # Defined in the class itself.
                self.assertTrue(inspect.isfunction(vars(found)[method]), method)
                told = list(inspect.signature(vars(found)[method]).parameters)
                self.assertEqual(told, ["self"] + arguments.split(), (name, method))

    def test_arguments_by_name(self):
        table = tables.turn(n=2)
        history = (("first", 0),)
        self.assertEqual(tables.entry(b=1, a=1, o=0, table=table), 0)
        self.assertEqual(tables.halves(m=1, table=table), (table, tables.turn(1)))
        self.assertEqual(tables.renamed(names=(1, 0), table=table), table)
        self.assertEqual(histories.states(history=history, table=table), (0,))
        self.assertEqual(histories.made_history(thing=history, n=2), history)
        self.assertEqual(wholerows.span_factors(target=(2,), many=1, rows=((1,),)), (2,))
        self.assertEqual(told.fallen(told=(1, ())), None)


if __name__ == "__main__":
    unittest.main()
