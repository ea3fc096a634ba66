"""[53] and [54]: the judges of clean ways, and of what bars them."""

import itertools
import random
import time
import unittest

from editlots.kernel import blocked_right, way_right
from editlots.kinds import step

from drawn import random_fields
from judgecase import JudgeCase
from judging import blocked_holds, stands_come_to, way_holds

K = ((4,), ((0,), (1,), (3,)))
ONE = ((), ((),))
PAIRS = ((2, 3), ((0, 0), (0, 1), (1, 0), (1, 2)))
# The two edits of the document: from 0 to 1, and from there to 3.
STEPS = (((0, ((1,),)),), ((1, ((2,),)),))
GREAT = 10 ** 300


def random_ways(source):
    """Fields, amounts that have states, and the steps of some parts with edits in common."""
    fields = random_fields(source, source.randrange(1, 4))
    amounts = tuple(source.choice(hands) for _, hands in fields)
    edits = sorted(source.sample(range(400), source.randrange(1, 9)))
    moves = {edit: tuple(tuple(source.randrange(size) for size in sizes) for sizes, _ in fields) for edit in edits}
    steps = []
    for _ in range(source.randrange(1, 5)):
        part = sorted(source.sample(edits, source.randrange(len(edits) + 1)))
        steps.append(tuple((edit, moves[edit]) for edit in part))
    return fields, amounts, tuple(steps)


class TestWays(JudgeCase):

    def lets_way(self, *args):
        self.lets(way_right, way_holds, args)

    def bars_way(self, *args):
        self.assertIs(self.says(way_right, way_holds, args), False)

    def test_example(self):
        self.lets_way((K,), ((0,),), STEPS, (0, 1))
        # The second part alone leads to 2, which is barred.
        self.bars_way((K,), ((0,),), STEPS, (1, 0))
        self.bars_way((K,), ((2,),), STEPS, (0, 1))

    def test_the_vault_of_the_document(self):
        e0, e1, e2 = (step(K, one, two) for one, two in (((0,), (1,)), ((0,), (3,)), ((1,), (3,))))
        steps = (((0, (e0,)),), ((1, (e1,)),), ((2, (e2,)),))
        for order in itertools.permutations(range(3)):
            self.says(way_right, way_holds, ((K,), ((0,),), steps, order))
        self.lets_way((K,), ((0,),), steps[:2], (0, 1))
        self.lets_way((K,), ((0,),), steps[:2], (1, 0))
        self.bars_way((K,), ((0,),), steps, (0, 1, 2))

    def test_stand_of_nothing(self):
        # Put in together with the only part the amount has a state, but not before.
        self.bars_way((K,), ((2,),), (((5, ((1,),)),),), (0,))
        self.lets_way((K,), ((3,),), (((5, ((1,),)),),), (0,))
        self.bars_way((K,), ((3,),), (((5, ((3,),)),),), (0,))

    def test_orders(self):
        for order in ((), (0,), (1,), (0, 0), (0, 1, 1), (0, 1, 2), (0, True), (False, 1), None, 0, "01", ((0,), (1,)), (0, -1)):
            self.bars_way((K,), ((0,),), STEPS, order)

    def test_edits_in_common_are_taken_once(self):
        shared = (7, ((1,),))
        self.lets_way((K,), ((0,),), ((shared,), (shared,)), (0, 1))
        self.lets_way((K,), ((0,),), ((shared, (8, ((2,),))), (shared,)), (0, 1))
        self.lets_way((K,), ((0,),), ((shared, (8, ((2,),))), (shared,)), (1, 0))
        # As unlike edits the two would lead to 2.
        self.bars_way((K,), ((0,),), ((shared,), ((8, ((1,),)),)), (0, 1))
        # One edit has the same steps everywhere.
        self.bars_way((K,), ((0,),), ((shared,), ((7, ((3,),)),)), (0, 1))
        self.bars_way((K,), ((0,),), ((shared,), ((7, ((0,),)),)), (0, 1))

    def test_parts(self):
        self.lets_way((K,), ((0,),), ((),), (0,))
        self.lets_way((K,), ((0,),), ((),) * 8, (7, 6, 5, 4, 3, 2, 1, 0))
        self.bars_way((K,), ((0,),), ((),) * 9, tuple(range(9)))
        self.bars_way((K,), ((0,),), (), ())
        nought = ((0,),)
        for part in (
            ((1, nought), (0, nought)), ((0, nought), (0, nought)), ((400, nought),), ((-1, nought),), ((True, nought),),
            ((0, nought, ()),), ((0,),), (0, nought), ((0, ((4,),)),), ((0, (0,)),), ((0, ((0,), (0,))),), ((0, ((True,),)),),
            ((0, ()),), ((0, ((),)),), None, 0, "", (None,), ("0",),
        ):
            self.bars_way((K,), ((0,),), (part,), (0,))
            self.bars_way((K,), ((0,),), ((), part), (0, 1))
        self.lets_way((K,), ((0,),), (((0, nought), (399, nought)),), (0,))

    def test_fields_and_amounts(self):
        steps = (((0, ((1,), ())),),)
        self.lets_way((K, ONE), ((0,), ()), steps, (0,))
        for kinds in ((K,), (ONE, K), (K, ONE, ONE), (), K, None, (K, ((), ((), ()))), (K, ((1,), ((0,),)))):
            self.bars_way(kinds, ((0,), ()), steps, (0,))
        for amounts in (((0,),), ((), (0,)), ((0,), (), ()), ((4,), ()), ((0,), (0,)), ((True,), ()), None, (), 0):
            self.bars_way((K, ONE), amounts, steps, (0,))
        self.bars_way((K,) * 7, ((0,),) * 7, ((),), (0,))
        self.lets_way((K,) * 6, ((0,),) * 6, ((),), (0,))

    def test_any_field_bars(self):
        for field in range(3):
            amounts = tuple((2,) if k == field else (0,) for k in range(3))
            self.bars_way((K,) * 3, amounts, ((),), (0,))
            moves = tuple((2,) if k == field else (1,) for k in range(3))
            self.bars_way((K,) * 3, ((0,),) * 3, (((0, moves),),), (0,))

    def test_great_sizes(self):
        kind = ((GREAT,), ((0,), (GREAT - 1,), (5,)))
        self.lets_way((kind,), ((0,),), (((0, ((GREAT - 1,),)),), ((1, ((6,),)),)), (0, 1))
        self.bars_way((kind,), ((0,),), (((0, ((GREAT - 1,),)),), ((1, ((6,),)),)), (1, 0))

    def test_random_ways(self):
        source = random.Random(51)
        let = 0
        for _ in range(300):
            args = random_ways(source)
            for order in itertools.permutations(range(len(args[2]))):
                let += self.says(way_right, way_holds, (*args, order))
        self.assertGreater(let, 300)

    def test_bent(self):
        self.judges_bends(way_right, way_holds, ((K,), ((0,),), STEPS, (0, 1)))
        shared = (7, ((1,), (1, 0)))
        steps = ((shared, (8, ((2,), (1, 1)))), (shared, (9, ((0,), (0, 0)))))
        self.judges_bends(way_right, way_holds, ((K, PAIRS), ((0,), (0, 0)), steps, (1, 0)))

    def test_anything(self):
        self.judges_anything(way_right, way_holds, ((K,), ((0,),), STEPS, (0, 1)))

    def test_by_name(self):
        self.assertIs(way_right(order=(0, 1), steps=STEPS, amounts=((0,),), kinds=(K,)), True)


class TestBlocked(JudgeCase):

    def lets_stands(self, *args):
        self.lets(blocked_right, blocked_holds, args)

    def bars_stands(self, *args):
        self.assertIs(self.says(blocked_right, blocked_holds, args), False)

    def test_example(self):
        self.lets_stands((K,), ((0,),), STEPS[1:], ((),))
        self.bars_stands((K,), ((0,),), STEPS[1:], ())
        self.bars_stands((K,), ((0,),), STEPS[1:], ((), (0,)))
        # There is a clean way for both parts.
        self.bars_stands((K,), ((0,),), STEPS, ((), (0,), (0, 1)))
        self.bars_stands((K,), ((0,),), STEPS, ((), (0,)))

    def test_stand_of_nothing(self):
        self.lets_stands((K,), ((2,),), STEPS, ())
        self.bars_stands((K,), ((2,),), STEPS, ((),))
        self.lets_stands((K,), ((2,),), ((),), ())

    def test_rising(self):
        steps = (((0, ((1,),)),), ((1, ((3,),)),), ((2, ((2,),)),))
        right = stands_come_to((K,), ((0,),), steps)
        self.assertEqual(right, ((), (0,), (0, 1), (0, 2), (1,), (1, 2)))
        self.lets_stands((K,), ((0,),), steps, right)
        for stands in itertools.permutations(right):
            self.assertIs(blocked_right((K,), ((0,),), steps, stands), stands == right)
        for stands in (right + ((2,),), right[:-1], right[1:], right + right[-1:], ((),) + right, right[:2] + ((1, 0),) + right[3:]):
            self.bars_stands((K,), ((0,),), steps, stands)
        self.bars_stands((K,), ((0,),), steps, ((), (False,), (0, True), (0, 2), (1,), (1, 2)))
        self.bars_stands((K,), ((0,),), steps, ((), (0,), (0, 1), (0, 2), (True,), (1, 2)))

    def test_just_what_can_be_come_to(self):
        # The parts 0 and 1 together are clean, but neither of them alone.
        steps = (((0, ((2,),)),), ((1, ((2,),)),), ((2, ((2,),)),))
        self.lets_stands((K,), ((0,),), steps, ((),))
        self.bars_stands((K,), ((0,),), steps, ((), (0, 1), (0, 2), (1, 2)))
        # All parts together are clean, but cannot be come to.
        self.lets_stands((K,), ((0,),), steps[:2], ((),))

    def test_random_ways(self):
        source = random.Random(52)
        let = 0
        for _ in range(400):
            args = random_ways(source)
            right = stands_come_to(*args)
            let += self.says(blocked_right, blocked_holds, (*args, right))
            for k in range(len(right)):
                self.says(blocked_right, blocked_holds, (*args, right[:k] + right[k + 1:]))
        self.assertGreater(let, 60)

    def test_never_both(self):
        source = random.Random(53)
        for _ in range(100):
            args = random_ways(source)
            ways = [order for order in itertools.permutations(range(len(args[2]))) if way_right(*args, order)]
            self.assertIs(blocked_right(*args, stands_come_to(*args)), not ways)

    def test_bent(self):
        self.judges_bends(blocked_right, blocked_holds, ((K,), ((0,),), STEPS[1:], ((),)))
        steps = (((0, ((1,),)),), ((1, ((3,),)),), ((2, ((2,),)),))
        right = ((), (0,), (0, 1), (0, 2), (1,), (1, 2))
        self.judges_bends(blocked_right, blocked_holds, ((K,), ((0,),), steps, right))
        self.judges_bends(blocked_right, blocked_holds, ((K,), ((2,),), STEPS, ()))

    def test_anything(self):
        self.judges_anything(blocked_right, blocked_holds, ((K,), ((0,),), STEPS[1:], ((),)))

    def test_by_name(self):
        self.assertIs(blocked_right(stands=((),), steps=STEPS[1:], amounts=((0,),), kinds=(K,)), True)


class TestQuickly(JudgeCase):

    def check_quickly(self, fields, amounts, steps):
        """Both judges answer within seconds of many parts, and rightly."""
        start = time.process_time()
        order = tuple(range(len(steps)))
        self.says(way_right, way_holds, (fields, amounts, steps, order))
        right = stands_come_to(fields, amounts, steps)
        self.says(blocked_right, blocked_holds, (fields, amounts, steps, right))
        self.assertLess(time.process_time() - start, 10)

    def test_8_parts_of_many_edits(self):
        source = random.Random(54)
        kind = ((12,), tuple((k,) for k in range(12)))
        moves = [((source.randrange(12),),) for _ in range(400)]
        for often in (1, 4, 8):
            parts = [[] for _ in range(8)]
            for edit in range(400):
                for part in source.sample(range(8), often):
                    parts[part].append((edit, moves[edit]))
            self.check_quickly((kind,), ((0,),), tuple(tuple(part) for part in parts))
            self.check_quickly((K,), ((0,),), tuple(tuple((edit, ((k % 4,),)) for edit, ((k,),) in part) for part in parts))

    def test_great_fields(self):
        wide = ((2,) * 12, tuple(tuple(int(j == k) for j in range(12)) for k in range(12)))
        steps = tuple(((part, ((0,) * 12,) * 6),) for part in range(8))
        self.check_quickly((wide,) * 6, (wide[1][0],) * 6, steps)

    def test_thousands_of_calls(self):
        steps = tuple(((part, ((part % 2 * 2,),)),) for part in range(8))
        right = stands_come_to((K,), ((1,),), steps)
        start = time.process_time()
        for _ in range(300):
            blocked_right((K,), ((1,),), steps, right)
            way_right((K,), ((1,),), steps, tuple(range(8)))
        self.assertLess(time.process_time() - start, 10)


if __name__ == "__main__":
    unittest.main()
