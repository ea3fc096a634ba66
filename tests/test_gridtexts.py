"""[55] to [57] and [63]: tables as grids."""

import random
import time
import unittest

from editlots.errors import BadNames, BadTable, BadText, NoName, TooMany, Twice
from editlots.gridtexts import print_grid, read_grid
from editlots.tables import greater, made_table, once, sides, turn

from helpers import all_gaps, ODD, outcome, random_table
from reading import grid
from textcase import LETTERS, LONG_NAMES, NAME_SETS, TextCase


class TestReading(TextCase):

    def test_examples(self):
        self.assertEqual(read_grid("off on: off on, on off; on off, off on"), (("off", "on"), turn(2)))
        self.assertEqual(read_grid("off: gap"), (("off",), (((None,),),)))

    def test_spaces(self):
        for text in ("a:a", "  a   :   a  ", "a :a", "a: a "):
            self.assertEqual(read_grid(text), (("a",), (((0,),),)))
        self.assertEqual(read_grid("a b:a gap,b b;gap a,a b"), (("a", "b"), (((0, None), (1, 1)), ((None, 0), (0, 1)))))
        self.reads_respaced(random.Random(57), read_grid, "off on: off on, on off; on off, off on")

    def test_heading(self):
        for text, error, what in (
            ("", BadText, 0), ("   ", BadText, 3), (":", BadText, 0), ("a", BadText, 1), ("a  ", BadText, 3),
            ("gap: gap", BadText, 0),
            ("a any: a", BadText, 2), ("a turn: a", BadText, 2), ("A: A", BadText, 0), ("1: 1", BadText, 0),
            ("a1: a1, a1", BadText, 6),
            ("a a: a", Twice, 2), ("a b a: a", Twice, 4), ("a b c d e f g h i j k l m: a", TooMany, 24),
            ("a b c d e f g h i j k l l: a", TooMany, 24), ("a b c d e f g h i j k l gap: a", BadText, 24),
            ("a b c d e f g h i j k l 9: a", BadText, 24), ("abcdefghijklm: a", BadText, 0),
            ("a abcdefghijklm: a", BadText, 2),
            ("a; a", BadText, 1), ("a -> a", BadText, 2), ("aB: aB", BadText, 0), ("9a: a", BadText, 0),
        ):
            self.refuses(error, what, read_grid, text)
        self.assertEqual(read_grid("abcdefghijkl: abcdefghijkl")[0], ("abcdefghijkl",))
        # Twelve names are let, and it is asked for entries then.
        self.refuses(BadText, 26, read_grid, "a b c d e f g h i j k l : ")

    def test_entries(self):
        for text, error, what in (
            ("a:", BadText, 2), ("a: ", BadText, 3), ("a: a a", BadText, 5), ("a: a;", BadText, 4), ("a: a,", BadText, 4),
            ("a: b", NoName, 3), ("a: any", BadText, 3), ("a: turn", BadText, 3), ("a: X", BadText, 3), ("a: 0", BadText, 3),
            ("a: ;", BadText, 3), ("a b: a b; a b", BadText, 8), ("a b: a b, a b, a b", BadText, 13),
            ("a b: a, b", BadText, 6),
            ("a b: a c; a b", NoName, 7), ("a b: a b, a b; a b, a", BadText, 21),
            ("a b: a b, a b; a b, a b; a", BadText, 23),
            ("a b: a b, a b; a b, a b, a", BadText, 23), ("a b: a b, a b; a b, a b a", BadText, 24), ("a: first", NoName, 3),
            ("a: a b", BadText, 5), ("a: A b", BadText, 3), ("a: ->", BadText, 3), ("a: -", BadText, 3),
            ("a: |", BadText, 3),
        ):
            self.refuses(error, what, read_grid, text)

    def test_no_texts(self):
        self.refuses_no_texts(read_grid, "a b: a b, b a; b a, a b")

    def test_bent_texts(self):
        source = random.Random(58)
        told = set()
        for text in (
            "off on: off on, on off; on off, off on", "off: gap", "a: a", print_grid(("edit", "x", "sizes"), once(3)),
            print_grid(LETTERS[:4], sides(4)), print_grid(LETTERS, all_gaps(12)),
        ):
            told |= self.reads_bent(source, read_grid, grid, text, 700 if len(text) < 200 else 60)
        self.assertLessEqual({True, "BadText", "NoName", "Twice"}, told)

    def test_by_name(self):
        self.assertEqual(read_grid(text="a: a"), (("a",), turn(1)))
        self.assertEqual(print_grid(table=turn(1), names=("a",)), "a: a")


class TestPrinting(TextCase):

    def test_examples(self):
        self.assertEqual(print_grid(("off", "on"), turn(2)), "off on: off on, on off; on off, off on")
        self.assertEqual(print_grid(("off",), (((None,),),)), "off: gap")
        self.assertEqual(print_grid(("a", "b"), sides(2)), "a b: a b, b gap; gap a, a b")

    def test_there_and_back(self):
        source = random.Random(59)
        for n in range(1, 13):
            for names in NAME_SETS:
                names = tuple(source.sample(names, n))
                for table in (turn(n), greater(n), all_gaps(n), random_table(source, n, 30), random_table(source, n, 90)):
                    text = print_grid(names, table)
                    if len(text) <= 20000:
                        self.assertEqual(read_grid(text), (names, table))
                        self.assertEqual(print_grid(*read_grid(text)), text)

    def test_longer_than_a_text(self):
        text = print_grid(LONG_NAMES, turn(12))
        self.assertGreater(len(text), 20000)
        self.refuses(BadText, 20000, read_grid, text)

    def test_refused(self):
        self.refuses_state_names(lambda names: print_grid(names, None))
        self.refuses_state_names(lambda names: print_grid(names, turn(12)))
        for thing in ODD + (((0, 0), (0, 0)), turn(2)[0], (turn(2)[0],)):
            told = outcome(made_table, thing)
            if told[0] is not True:
                self.assertEqual((told[0], outcome(print_grid, ("a",), thing)), ("BadTable", told))
        self.refuses(BadTable, (0, 0, 0), print_grid, ("a",), (((1,),),))
        # The table is asked ahead of how many names there are.
        self.refuses(BadTable, (0, 0, 0), print_grid, ("a", "b"), (((True,),),))
        for n in range(1, 13):
            for many in range(1, 13):
                if n != many:
                    self.refuses(BadNames, -1, print_grid, LETTERS[:many], turn(n))


class TestQuickly(TextCase):

    def test_great_grids(self):
        text = print_grid(LETTERS, turn(12))
        start = time.process_time()
        for _ in range(100):
            self.assertEqual(print_grid(*read_grid(text)), text)
        for _ in range(3000):
            read_grid("off on: off on, on off; on off, off on")
        self.assertLess(time.process_time() - start, 15)


if __name__ == "__main__":
    unittest.main()
