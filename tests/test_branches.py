"""[47] and [48]: branches, and deeds that are undone and done again."""

import random
import time
import unittest

from editlots.branches import Branches
from editlots.errors import (
    BadLot, BadName, BadRecord, Full, HasBranch, HasEdit, LacksEdit, NoBranch, NoEdit, NothingAgain, NothingBack,
)
from editlots.vault import Vault

from branching import drawn_deed, NAMES, NO_NAMES, PlainBranches, Wrong
from drawn import K, NO_LOTS, PAIRS, random_record, random_vault, wrong_records
from helpers import Case, ODD, outcome


def heads_of(branches):
    """All names with their heads."""
    return [(name, branches.head(name)) for name in branches.names()]


def moves_of(branches):
    """How many deeds can be undone and done again, and all heads on the way; the branches are as before then."""
    seen = []
    back = again = 0
    while outcome(branches.again) == (True, None):
        seen.append(heads_of(branches))
        again += 1
    while outcome(branches.back) == (True, None):
        seen.append(heads_of(branches))
        back += 1
    for _ in range(back - again):
        branches.again()
    return (back - again, again, seen)


def example():
    """The branches of the document's example, up to its merge."""
    branches = Branches(Vault((K,), (0,)))
    branches.start("main", ())
    branches.commit("main", (1,))
    branches.start("side", ())
    branches.commit("side", (2,))
    branches.merge("main", "side")
    return branches


class BranchCase(Case):

    def keeps(self, branches, error, what, call, *args):
        """The call is refused, and all heads and all that can be undone and done again stay."""
        before = (heads_of(branches), moves_of(branches))
        self.refuses(error, what, call, *args)
        self.assertEqual((heads_of(branches), moves_of(branches)), before)


class TestExample(BranchCase):

    def test_example(self):
        branches = Branches(Vault((((4,), ((0,), (1,), (3,))),), (0,)))
        self.assertIsNone(branches.start("main", ()))
        self.assertEqual(branches.commit("main", (1,)), 0)
        self.assertIsNone(branches.start("side", ()))
        self.assertEqual(branches.commit("side", (2,)), 1)
        self.assertIsNone(branches.merge("main", "side"))
        self.assertEqual(branches.head("main"), (0, 1))
        self.assertEqual(branches.log("side"), ((1, ((3,),)),))
        self.assertIsNone(branches.take_out("main", 0))
        self.assertEqual(branches.head("main"), (1,))
        self.assertIsNone(branches.back())
        self.assertEqual(branches.head("main"), (0, 1))
        self.assertIsNone(branches.again())
        self.assertEqual(branches.head("main"), (1,))
        self.assertEqual((branches.names(), branches.head("side")), (("main", "side"), (1,)))

    def test_by_name(self):
        branches = Branches(vault=random_vault(random.Random(1), (K,), 3))
        branches.start(lot=(0, 2), name="a")
        branches.start(name="b", lot=())
        self.assertEqual(branches.commit(record=(1,), name="b"), 3)
        branches.merge(other="b", name="a")
        branches.pick(edit=1, name="a")
        branches.take_out(edit=0, name="a")
        self.assertEqual(branches.head(name="a"), (1, 2, 3))
        self.assertEqual([edit for edit, _ in branches.log(name="a")], [1, 2, 3])
        branches.drop(name="b")
        self.assertEqual(branches.names(), ("a",))


class TestNames(BranchCase):

    def test_none_at_the_beginning(self):
        branches = Branches(random_vault(random.Random(2), (K,), 3))
        self.assertEqual(branches.names(), ())
        self.keeps(branches, NothingBack, 0, branches.back)
        self.keeps(branches, NothingAgain, 0, branches.again)

    def test_names(self):
        branches = Branches(Vault((K,), (0,)))
        for name in NAMES:
            branches.start(name, ())
            self.assertEqual(branches.head(name), ())
        self.assertEqual(branches.names(), tuple(sorted(NAMES)))

    def test_no_names(self):
        branches = example()
        for thing in NO_NAMES + ODD:
            if type(thing) is str and thing in ("a", "first"):
                continue
            self.keeps(branches, BadName, thing, branches.start, thing, ())
            self.keeps(branches, BadName, thing, branches.start, thing, None)
            for call in (branches.head, branches.log, branches.drop):
                self.keeps(branches, NoBranch, thing, call, thing)

    def test_all_signs(self):
        branches = Branches(Vault((K,), (0,)))
        right = set("abcdefghijklmnopqrstuvwxyz")
        for code in list(range(1100)) + [0x2460, 0xff11, 0xff41, 0x1d7d8, 0x10428]:
            sign = chr(code)
            for name, lets in ((sign, sign in right), ("b" + sign, sign in right | set("0123456789"))):
                if lets:
                    branches.start(name, ())
                    branches.drop(name)
                else:
                    self.refuses(BadName, name, branches.start, name, ())

    def test_no_branch(self):
        branches = example()
        branches.drop("side")
        for name in ("side", "other", "mai", "main1", "Main") + NO_NAMES:
            for call, rest in (
                (branches.head, ()), (branches.log, ()), (branches.drop, ()), (branches.commit, ((0,),)),
                (branches.commit, (None,)), (branches.merge, ("main",)), (branches.merge, ("other",)),
                (branches.pick, (0,)), (branches.pick, (None,)), (branches.take_out, (0,)), (branches.take_out, (9,)),
            ):
                self.keeps(branches, NoBranch, name, call, name, *rest)
            self.keeps(branches, NoBranch, name, branches.merge, "main", name)


class TestRefused(BranchCase):

    def test_start(self):
        branches = example()
        for thing in NO_LOTS + ODD[:12]:
            if thing not in ((), (0,), (0, 1)):
                self.keeps(branches, BadLot, -1, branches.start, "new", thing)
                # Ahead of the name's being there already.
                self.keeps(branches, BadLot, -1, branches.start, "main", thing)
        self.keeps(branches, BadLot, 2, branches.start, "new", (0, 2, 3))
        self.keeps(branches, BadLot, 2, branches.start, "main", (2,))
        self.keeps(branches, HasBranch, "main", branches.start, "main", (0, 1))
        self.keeps(branches, HasBranch, "side", branches.start, "side", ())

    def test_commit(self):
        branches = Branches(Vault((K, PAIRS), (0, 0)))
        branches.start("main", ())
        branches.commit("main", (1, 1))
        branches.start("other", ())
        branches.back()
        for thing, what in wrong_records((K, PAIRS)):
            self.keeps(branches, BadRecord, what, branches.commit, "main", thing)
            self.keeps(branches, NoBranch, "other", branches.commit, "other", thing)

    def test_commit_to_a_full_vault(self):
        vault = Vault((K,), (0,))
        branches = Branches(vault)
        branches.start("main", ())
        for number in range(399):
            self.assertEqual(branches.commit("main", (number % 3,)), number)
        self.assertEqual(branches.commit("main", (0,)), 399)
        branches.back()
        self.keeps(branches, Full, 400, branches.commit, "main", (0,))
        self.keeps(branches, BadRecord, 0, branches.commit, "main", (3,))
        self.keeps(branches, NoBranch, "mai", branches.commit, "mai", (0,))
        self.assertEqual(vault.edits(), 400)
        branches.again()
        self.assertEqual(branches.head("main"), tuple(range(400)))

    def test_pick_and_take_out(self):
        branches = example()
        branches.start("one", (0,))
        branches.back()
        branches.start("one", (0,))
        branches.drop("side")
        branches.back()
        for thing in (2, 3, 400, -1, None, True, False, "0", (), (0,), 10 ** 999):
            self.keeps(branches, NoEdit, thing, branches.pick, "one", thing)
            self.keeps(branches, NoEdit, thing, branches.take_out, "one", thing)
        self.keeps(branches, HasEdit, 0, branches.pick, "one", 0)
        self.keeps(branches, LacksEdit, 1, branches.take_out, "one", 1)
        self.keeps(branches, HasEdit, 1, branches.pick, "main", 1)


class TestDeeds(BranchCase):

    def test_each_deed_back_and_again(self):
        for deed, name, ahead, behind in (
            (("start", "new", (0, 1)), "new", None, (0, 1)), (("commit", "side", (0,)), "side", (1,), (1, 2)),
            (("merge", "side", "main"), "side", (1,), (0, 1)), (("merge", "side", "side"), "side", (1,), (1,)),
            (("pick", "side", 0), "side", (1,), (0, 1)), (("take_out", "main", 1), "main", (0, 1), (0,)),
            (("drop", "main"), "main", (0, 1), None),
        ):
            branches = example()
            before = heads_of(branches)
            others = [pair for pair in before if pair[0] != name]
            getattr(branches, deed[0])(*deed[1:])
            for _ in range(3):
                self.assertEqual(heads_of(branches), sorted(others + ([(name, behind)] if behind is not None else [])))
                branches.back()
                self.assertEqual(heads_of(branches), sorted(others + ([(name, ahead)] if ahead is not None else [])))
                self.assertEqual(heads_of(branches), before)
                branches.again()
            self.keeps(branches, NothingAgain, 0, branches.again)

    def test_again_is_the_same_edit(self):
        vault = Vault((K,), (0,))
        branches = Branches(vault)
        branches.start("main", ())
        branches.commit("main", (1,))
        branches.back()
        self.assertEqual((branches.head("main"), vault.edits(), vault.record((0,))), ((), 1, (1,)))
        branches.again()
        self.assertEqual((branches.head("main"), vault.edits()), ((0,), 1))
        branches.back()
        # The edit is in the vault and can be picked.
        branches.pick("main", 0)
        self.assertEqual(branches.head("main"), (0,))
        self.refuses(NothingAgain, 0, branches.again)
        self.assertEqual(branches.commit("main", (1,)), 1)

    def test_later_edits_stay(self):
        vault = Vault((K,), (0,))
        branches = Branches(vault)
        branches.start("main", ())
        for state in (1, 2, 0):
            branches.commit("main", (state,))
        branches.take_out("main", 0)
        self.assertEqual((branches.head("main"), vault.made_on(1)), ((1, 2), (0,)))
        branches.take_out("main", 2)
        branches.pick("main", 0)
        self.assertEqual((branches.head("main"), vault.record((0, 1))), ((0, 1), (2,)))

    def test_drop_leaves_the_edits(self):
        branches = example()
        branches.drop("main")
        branches.drop("side")
        self.assertEqual(branches.names(), ())
        branches.start("main", (0, 1))
        self.assertEqual(branches.log("main"), ((0, ((1,),)), (1, ((3,),))))
        for _ in range(3):
            branches.back()
        self.assertEqual(heads_of(branches), [("main", (0, 1)), ("side", (1,))])

    def test_granted_deeds_that_change_nothing(self):
        branches = example()
        branches.drop("side")
        branches.back()
        branches.merge("main", "main")
        self.keeps(branches, NothingAgain, 0, branches.again)
        self.assertEqual(heads_of(branches), [("main", (0, 1)), ("side", (1,))])
        # Such a deed is undone as any other.
        branches.back()
        self.assertEqual(heads_of(branches), [("main", (0, 1)), ("side", (1,))])
        branches.back()
        self.assertEqual(heads_of(branches), [("main", (0,)), ("side", (1,))])

    def test_refused_deeds_empty_nothing(self):
        branches = example()
        branches.back()
        for call, args in (
            (branches.start, ("main", ())), (branches.commit, ("main", (3,))), (branches.merge, ("main", "no")),
            (branches.pick, ("main", 0)), (branches.take_out, ("main", 1)), (branches.drop, ("no",)),
        ):
            self.assertNotEqual(outcome(call, *args)[0], True)
        branches.again()
        self.assertEqual(branches.head("main"), (0, 1))

    def test_questions_are_no_deeds(self):
        branches = example()
        branches.back()
        self.assertEqual((branches.names(), branches.head("main"), len(branches.log("main"))), (("main", "side"), (0,), 1))
        branches.again()
        self.assertEqual(branches.head("main"), (0, 1))

    def test_edits_of_the_vault_are_no_deeds(self):
        vault = Vault((K,), (0,))
        branches = Branches(vault)
        branches.start("main", ())
        branches.commit("main", (1,))
        branches.back()
        self.assertEqual(vault.edit((), (2,)), 1)
        self.assertEqual(branches.head("main"), ())
        branches.again()
        self.assertEqual(branches.head("main"), (0,))
        branches.pick("main", 1)
        branches.back()
        branches.back()
        branches.back()
        self.assertEqual((branches.names(), vault.edits()), ((), 2))
        self.refuses(NothingBack, 0, branches.back)

    def test_branches_of_one_vault(self):
        vault = Vault((K,), (0,))
        one, two = Branches(vault), Branches(vault)
        one.start("main", ())
        one.commit("main", (1,))
        self.assertEqual(two.names(), ())
        two.start("main", (0,))
        self.assertEqual(two.commit("main", (2,)), 1)
        one.back()
        self.assertEqual((one.head("main"), two.head("main")), ((), (0, 1)))


class TestFiftyDeeds(BranchCase):

    def deeds(self, branches, many):
        """So many deeds, by turns of two kinds."""
        for _ in range(many):
            if 0 in branches.head("main"):
                branches.take_out("main", 0)
            else:
                branches.pick("main", 0)

    def backs(self, branches):
        """How many deeds can be undone, all of them being undone."""
        found = 0
        while outcome(branches.back) == (True, None):
            found += 1
        return found

    def new(self):
        branches = Branches(random_vault(random.Random(3), (K,), 1))
        branches.start("main", ())
        return branches

    def test_at_the_limit(self):
        for many, told in ((0, 1), (48, 49), (49, 50), (50, 50), (51, 50), (120, 50)):
            branches = self.new()
            self.deeds(branches, many)
            self.assertEqual(self.backs(branches), told)
            self.assertEqual(branches.names(), ("main",) if many > 49 else ())
            for _ in range(told):
                branches.again()
            self.refuses(NothingAgain, 0, branches.again)
            self.assertEqual(branches.head("main"), (0,) if many % 2 else ())
            self.assertEqual(self.backs(branches), told)

    def test_some_undone_and_others_made(self):
        for many, undone, more, told in (
            (60, 10, 0, 40), (60, 10, 5, 45), (60, 10, 10, 50), (60, 10, 11, 50), (60, 50, 3, 3), (30, 31, 0, 0),
            (40, 20, 10, 31), (49, 1, 1, 50), (50, 50, 60, 50),
        ):
            branches = self.new()
            self.deeds(branches, many)
            for _ in range(undone):
                branches.back()
            if "main" in branches.names():
                self.deeds(branches, more)
            self.assertEqual(self.backs(branches), told, (many, undone, more))

    def test_again_counts_as_before(self):
        branches = self.new()
        self.deeds(branches, 70)
        for _ in range(20):
            branches.back()
        for _ in range(5):
            branches.again()
        self.deeds(branches, 3)
        self.refuses(NothingAgain, 0, branches.again)
        self.assertEqual(self.backs(branches), 38)


class TestBesideTheModel(BranchCase):

    def told(self, branches, deed):
        """What the deed comes to: (True, what is returned) or the error and its what."""
        try:
            return outcome(getattr(branches, deed[0]), *deed[1:])
        except Wrong as wrong:
            return wrong.args

    def test_long_rows_of_deeds(self):
        source = random.Random(48)
        for names in (("a",), ("a", "b"), ("a", "b", "c", "d1", "Bad")):
            for _ in range(8):
                fields = (K, PAIRS)
                record = random_record(source, fields)
                branches, plain = Branches(Vault(fields, record)), PlainBranches(Vault(fields, record))
                refused = 0
                for _ in range(400):
                    record = random_record(source, fields) if source.randrange(9) else (0,)
                    deed = drawn_deed(source, names, plain.vault.edits(), record)
                    told = self.told(plain, deed)
                    self.assertEqual(self.told(branches, deed), told, deed)
                    refused += told[0] is not True
                    self.assertEqual(branches.names(), plain.names())
                    for name in branches.names():
                        self.assertEqual(branches.head(name), plain.head(name))
                        self.assertEqual(branches.log(name), plain.log(name))
                self.assertGreater(refused, 30)
                self.assertLess(refused, 370)


class TestQuickly(BranchCase):

    def test_thousands_of_deeds(self):
        vault = random_vault(random.Random(4), (K,), 400)
        branches = Branches(vault)
        start = time.process_time()
        branches.start("main", tuple(range(400)))
        branches.start("odd", tuple(range(1, 400, 2)))
        for number in range(3000):
            branches.take_out("main", number % 400)
            branches.pick("main", number % 400)
            branches.merge("odd", "odd")
            branches.back()
            branches.again()
            branches.head("main")
            branches.names()
        for _ in range(300):
            branches.log("main")
        self.assertLess(time.process_time() - start, 15)


if __name__ == "__main__":
    unittest.main()
