"""[19]: the judges of clocks, clashes and names."""

import itertools
import random
import time
import unittest

from editlots.judge import coordinates, least_clash, order_proof, why
from editlots.kernel import clash_right, clocks_right, names_right
from editlots.tables import greater, once, product, renamed, sides, turn

from bends import bent_calls
from helpers import all_gaps, changed, clashes_of, random_history, random_table, table_by
from judgecase import JudgeCase
from judging import clash_holds, clocks_hold, names_hold
from reckon import spoilt, turned_proof_tables

LATE = (
    ("first", 0), ("edit", 0, 1), ("edit", 1, 0), ("edit", 0, 1), ("merge", 0, 1, 3), ("merge", 1, 2, 4),
    ("merge", 0, 2, 3),
)
FOUR = product(turn(2), turn(2))
PAIRS = ((0, 0), (0, 1), (1, 0), (1, 1))


class TestClocks(JudgeCase):

    def lets_clocks(self, *args):
        self.lets(clocks_right, clocks_hold, args)

    def bars_clocks(self, *args):
        self.assertIs(self.says(clocks_right, clocks_hold, args), False)

    def test_what_the_package_tells(self):
        for _, table in turned_proof_tables():
            self.lets_clocks(table, *coordinates(table))
            self.lets_clocks(table, *why(table)[1:])

    def test_any_right_hands(self):
        self.lets_clocks(turn(4), (4,), ((0,), (1,), (2,), (3,)))
        self.lets_clocks(turn(4), (4,), ((0,), (3,), (2,), (1,)))
        self.bars_clocks(turn(4), (4,), ((0,), (2,), (1,), (3,)))
        # Not with noughts for state 0, though all entries are right by them.
        self.bars_clocks(turn(4), (4,), ((1,), (2,), (3,), (0,)))
        for turned in itertools.permutations(PAIRS[1:]):
            self.lets_clocks(FOUR, (2, 2), PAIRS[:1] + turned)
        for hands in itertools.permutations(PAIRS):
            self.says(clocks_right, clocks_hold, (FOUR, (2, 2), hands))
        for hands in itertools.permutations([(k,) for k in range(5)]):
            self.says(clocks_right, clocks_hold, (turn(5), (5,), hands))

    def test_one_state(self):
        self.lets_clocks(turn(1), (), ((),))
        for clocks, hands in (((1,), ((0,),)), ((), ()), ((), ((0,),)), ((2,), ((0,),)), ((), ((), ()))):
            self.bars_clocks(turn(1), clocks, hands)

    def test_clocks_out_of_order(self):
        clocks, hands = coordinates(turn(6))
        self.assertEqual(clocks, (2, 3))
        self.bars_clocks(turn(6), (3, 2), tuple((b, a) for a, b in hands))
        self.bars_clocks(turn(6), (6,), tuple((k,) for k in range(6)))
        table = product(turn(2), turn(4))
        clocks, hands = coordinates(table)
        self.bars_clocks(table, (4, 2), tuple((b, a) for a, b in hands))
        self.bars_clocks(turn(12), (3, 4), tuple((k % 3, k % 4) for k in range(12)))
        self.lets_clocks(turn(12), (4, 3), tuple((k % 4, k % 3) for k in range(12)))
        self.bars_clocks(turn(2), (2, 1), ((0, 0), (1, 0)))
        self.bars_clocks(turn(4), (2, 2), PAIRS)
        self.bars_clocks(FOUR, (4,), ((0,), (1,), (2,), (3,)))
        # Two clocks by which all entries are right, but with more hands than states.
        self.bars_clocks(turn(2), (4,), ((0,), (2,)))

    def test_tables_that_are_wrong(self):
        self.bars_clocks(changed(turn(2), 1, 1, 0, None), (2,), ((0,), (1,)))
        self.bars_clocks(changed(turn(2), 1, 1, 0, True), (2,), ((0,), (1,)))
        self.bars_clocks(changed(turn(2), 1, 1, 0, 1), (2,), ((0,), (1,)))
        self.bars_clocks(sides(2), (2,), ((0,), (1,)))
        source = random.Random(31)
        for _, table in turned_proof_tables():
            if len(table) > 1:
                self.bars_clocks(spoilt(source, table), *coordinates(table))

    def test_just_of_order_proof_tables(self):
        for told in itertools.product(range(2), repeat=8):
            table = table_by(2, lambda o, a, b: told[4 * o + 2 * a + b])
            self.assertIs(clocks_right(table, (2,), ((0,), (1,))), order_proof(table))
        source = random.Random(32)
        for _ in range(300):
            table = random_table(source, 3, 0)
            for hands in itertools.permutations(((0,), (1,), (2,))):
                self.bars_clocks(table, (3,), hands)

    def test_bent(self):
        for table in (turn(2), turn(3), renamed(turn(4), (2, 3, 1, 0))):
            self.judges_bends(clocks_right, clocks_hold, (table, *coordinates(table)))
        self.judges_bends(clocks_right, clocks_hold, (turn(1), (), ((),)))

    def test_bent_hands_of_many_states(self):
        for table in (product(FOUR, turn(3)), turn(12)):
            for bent in bent_calls(coordinates(table)):
                self.says(clocks_right, clocks_hold, (table, *bent))

    def test_anything(self):
        self.judges_anything(clocks_right, clocks_hold, (turn(2), (2,), ((0,), (1,))))
        self.judges_anything(clocks_right, clocks_hold, (turn(1), (), ((),)))

    def test_by_name(self):
        self.assertIs(clocks_right(hands=((0,), (1,)), clocks=(2,), table=turn(2)), True)


class TestClashes(JudgeCase):

    def lets_clash(self, *args):
        self.lets(clash_right, clash_holds, args)

    def bars_clash(self, *args):
        self.assertIs(self.says(clash_right, clash_holds, args), False)

    def test_what_the_package_tells(self):
        source = random.Random(33)
        for _, table in turned_proof_tables():
            if len(table) > 1:
                wrong = spoilt(source, table)
                self.lets_clash(wrong, *least_clash(wrong))
        for n in range(2, 13):
            self.lets_clash(greater(n), *why(greater(n))[1:])

    def test_either_order(self):
        self.lets_clash(once(2), LATE, 5, 6)
        self.lets_clash(once(2), LATE, 6, 5)
        for i, j in itertools.product(range(-1, 8), repeat=2):
            self.assertIs(self.says(clash_right, clash_holds, (once(2), LATE, i, j)), {i, j} == {5, 6})

    def test_gaps_are_let(self):
        table = changed(once(3), 2, 2, 2, None)
        self.lets_clash(table, LATE, 5, 6)
        # By sides the two have no states.
        self.bars_clash(sides(2), LATE, 5, 6)
        self.bars_clash(changed(once(2), 0, 0, 1, None), LATE, 5, 6)
        self.bars_clash(all_gaps(2), LATE, 5, 6)

    def test_any_many_edits(self):
        longer = LATE + (("edit", 5, 0), ("edit", 6, 0)) + tuple(("edit", k, 1) for k in range(7, 38))
        self.assertEqual(len(longer), 40)
        self.lets_clash(once(2), longer, 5, 6)
        self.bars_clash(once(2), longer, 7, 8)
        self.bars_clash(once(2), longer + (("edit", 0, 0),), 5, 6)

    def test_histories_that_are_wrong(self):
        self.bars_clash(once(2), LATE[:5] + (("merge", 0, 2, 4), LATE[6]), 5, 6)
        self.bars_clash(once(2), LATE[1:], 4, 5)
        self.bars_clash(once(2), (), 0, 0)
        self.bars_clash(once(1), LATE, 5, 6)
        self.lets_clash(once(3), LATE, 5, 6)

    def test_order_proof_tables_never_clash(self):
        source = random.Random(34)
        for _, table in turned_proof_tables()[::5]:
            history = random_history(source, len(table), 14)
            for i, j in itertools.combinations(range(14), 2):
                self.bars_clash(table, history, i, j)

    def test_never_both(self):
        source = random.Random(35)
        for told in itertools.product(range(2), repeat=8):
            table = table_by(2, lambda o, a, b: told[4 * o + 2 * a + b])
            proof = clocks_right(table, (2,), ((0,), (1,)))
            found = ("clocks",) if proof else why(table)
            self.assertEqual(found[0], "clocks" if proof else "clash")
            if not proof:
                self.lets_clash(table, *found[1:])
            history = random_history(source, 2, 10)
            pairs = clashes_of(table, history)
            for i, j in itertools.combinations(range(10), 2):
                self.assertIs(clash_right(table, history, i, j), (i, j) in pairs)
            self.assertFalse(proof and pairs)

    def test_random_histories(self):
        source = random.Random(36)
        for n in range(2, 6):
            for gaps in (0, 20):
                table, history = random_table(source, n, gaps), random_history(source, n, 20)
                for i, j in itertools.product(range(20), repeat=2):
                    self.says(clash_right, clash_holds, (table, history, i, j))

    def test_bent(self):
        self.judges_bends(clash_right, clash_holds, (once(2), LATE, 5, 6))
        table = changed(turn(3), 1, 2, 0, 2)
        self.judges_bends(clash_right, clash_holds, (table, *least_clash(table)))

    def test_anything(self):
        self.judges_anything(clash_right, clash_holds, (once(2), LATE, 6, 5))

    def test_by_name(self):
        self.assertIs(clash_right(j=6, i=5, history=LATE, table=once(2)), True)


class TestNames(JudgeCase):

    def test_new_names(self):
        source = random.Random(37)
        for n in range(1, 13):
            for table in (turn(n), once(n), all_gaps(n), random_table(source, n, 30)):
                names = tuple(source.sample(range(n), n))
                self.lets(names_right, names_hold, (table, renamed(table, names), names))
        for n in range(2, 5):
            one = random_table(source, n, 10)
            two = renamed(one, tuple(source.sample(range(n), n)))
            for names in itertools.permutations(range(n)):
                self.says(names_right, names_hold, (one, two, names))

    def test_the_example_of_renamed(self):
        two = renamed(greater(3), (2, 0, 1))
        self.lets(names_right, names_hold, (greater(3), two, (2, 0, 1)))
        # The names back are other ones.
        self.assertIs(self.says(names_right, names_hold, (two, greater(3), (2, 0, 1))), False)
        self.lets(names_right, names_hold, (two, greater(3), (1, 2, 0)))

    def test_unlike_many_states(self):
        for one, two, names in (
            (turn(2), turn(3), (0, 1)), (turn(2), turn(3), (0, 1, 2)), (turn(3), turn(2), (0, 1)),
            (turn(3), turn(2), (0, 1, 2)), (turn(2), turn(1), (0, 1)), (all_gaps(2), all_gaps(3), (0, 1)),
        ):
            self.assertIs(self.says(names_right, names_hold, (one, two, names)), False)

    def test_bent(self):
        for one in (turn(2), sides(3), turn(1)):
            names = tuple(range(1, len(one))) + (0,)
            self.judges_bends(names_right, names_hold, (one, renamed(one, names), names))

    def test_anything(self):
        self.judges_anything(names_right, names_hold, (turn(2), turn(2), (1, 0)))
        self.judges_anything(names_right, names_hold, (turn(1), turn(1), (0,)))

    def test_by_name(self):
        self.assertIs(names_right(names=(1, 0), two=turn(2), one=turn(2)), True)


class TestQuickly(JudgeCase):

    def test_thousands_of_calls(self):
        table = product(turn(2), turn(6))
        clocks, hands = coordinates(table)
        wrong = changed(table, 11, 11, 10, 0)
        clash = least_clash(wrong)
        names = tuple(range(11, -1, -1))
        other = renamed(table, names)
        start = time.process_time()
        for _ in range(1000):
            self.assertIs(clocks_right(table, clocks, hands), True)
            self.assertIs(clash_right(wrong, *clash), True)
            self.assertIs(names_right(table, other, names), True)
        self.assertLess(time.process_time() - start, 20)


if __name__ == "__main__":
    unittest.main()
