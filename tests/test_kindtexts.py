"""[62] and [63]: kinds as texts."""

import random
import time
import unittest

from editlots.errors import BadKind, BadNames, BadText, TooMany, Twice
from editlots.kinds import kind_of, made_kind
from editlots.kindtexts import print_kind, read_kind
from editlots.tables import sides, turn

from drawn import random_fields
from helpers import ODD, outcome
from reading import bent_texts, kind, read
from textcase import LETTERS, LONG_NAMES, NAME_SETS, TextCase

K = ((4,), ((0,), (1,), (3,)))
GREAT = 10 ** 30 - 1


def told_kind(text):
    """What the second reader tells of it, and of that made_kind."""
    told = read(kind(), text)
    if told[0] is not True:
        return told
    names, found = told[1]
    made = outcome(made_kind, found)
    return (True, (names, found)) if made[0] is True else made


class TestReading(TextCase):

    def test_examples(self):
        self.assertEqual(read_kind("zero one three: sizes 4: 0, 1, 3"), (("zero", "one", "three"), K))
        self.assertEqual(read_kind("on: sizes:"), (("on",), ((), ((),))))
        self.assertEqual(read_kind(text="a b:sizes 2 3:0 1,1 0"), (("a", "b"), ((2, 3), ((0, 1), (1, 0)))))
        self.reads_respaced(random.Random(62), read_kind, "a b c: sizes 2 30: 0 1, 1 0, 1 29")

    def test_names_that_are_words_of_the_form(self):
        self.assertEqual(read_kind("sizes: sizes:"), (("sizes",), ((), ((),))))
        self.assertEqual(read_kind("sizes first: sizes 5: 4, 0"), (("sizes", "first"), ((5,), ((4,), (0,)))))

    def test_long_numbers(self):
        text = "a b: sizes %d: 0, %d" % (GREAT, GREAT - 1)
        self.assertEqual(read_kind(text), (("a", "b"), ((GREAT,), ((0,), (GREAT - 1,)))))
        self.refuses(BadText, 11, read_kind, "a b: sizes %d: 0, 1" % (GREAT + 1))
        self.refuses(BadText, 14, read_kind, "a: sizes 4:   %s" % ("1" * 31))
        self.refuses(BadText, 9, read_kind, "a: sizes %s: 1" % ("0" * 30))
        self.refuses(BadText, 9, read_kind, "a: sizes 0%s: 1" % ("1" * 29))

    def test_wrong_words(self):
        for text, error, what in (
            ("", BadText, 0), ("a", BadText, 1), ("a:", BadText, 2), ("a: size 4: 0", BadText, 3), ("a: 4: 0", BadText, 3),
            ("a: sizes", BadText, 8), ("a: sizes 4", BadText, 10), ("a: sizes 4 a: 0", BadText, 11),
            ("a: sizes 4, 5: 0", BadText, 10),
            ("a: sizes 4:", BadText, 11), ("a: sizes 4: a", BadText, 12), ("a: sizes 4: 0 1", BadText, 14),
            ("a: sizes 4: 0,", BadText, 13),
            ("a: sizes 4: 0, 1", BadText, 13), ("a b: sizes 4: 0", BadText, 15), ("a b: sizes 4: 0; 1", BadText, 15),
            ("a b: sizes 4: 0 1", BadText, 16), ("a b: sizes 4 5: 0, 1", BadText, 17),
            ("a b: sizes 4: 0, 1, 2", BadText, 18),
            ("a: sizes: 0", BadText, 10), ("a b: sizes:", BadText, 11), ("a b: sizes: ,", BadKind, 1),
            ("a: sizes 4: -1", BadText, 12),
            ("a: sizes 04: 0", BadText, 9), ("a: sizes 4: 00", BadText, 12), ("a: sizes 4: 9a", BadText, 12),
            ("a a: sizes:", Twice, 2),
            ("a b c d e f g h i j k l m: sizes:", TooMany, 24), ("sizes: 4: 0", BadText, 7),
            ("a: sizes 4: gap", BadText, 12),
        ):
            self.refuses(error, what, read_kind, text)

    def test_made_kind_comes_behind_all_reading(self):
        for text, error, what in (
            ("a: sizes 1: 0", BadKind, 0), ("a: sizes 0: 0", BadKind, 0), ("a: sizes 4: 4", BadKind, 1),
            ("a b: sizes 4: 1, 1", BadKind, 1),
            ("a b: sizes 1: 1, 1", BadKind, 0), ("a b: sizes 1: 1, x", BadText, 17), ("a b: sizes 4: 9", BadText, 15),
            ("a: sizes%s: 0%s" % (" 2" * 12, " 0" * 11), None, None),
            ("a: sizes%s: 0%s" % (" 2" * 13, " 0" * 12), BadKind, 0),
            ("a: sizes%s: 0%s" % (" 2" * 13, " 0" * 11), BadText, 59),
            ("a: sizes%s: 0%s" % (" 2" * 4000, " 0" * 3999), BadKind, 0),
        ):
            if error is None:
                self.assertEqual(read_kind(text), (("a",), ((2,) * 12, ((0,) * 12,))))
            else:
                self.refuses(error, what, read_kind, text)

    def test_no_texts(self):
        self.refuses_no_texts(read_kind, "a b: sizes 4: 0, 1")

    def test_bent_texts(self):
        source = random.Random(63)
        told = set()
        for text in (
            "zero one three: sizes 4: 0, 1, 3", "on: sizes:", "sizes: sizes 2 3: 1 2",
            "a b c: sizes 2 1234567890: 0 1, 1 0, 1 29",
            print_kind(LETTERS, ((13, 2), tuple((k, k % 2) for k in range(12)))),
        ):
            for bent in [text] + bent_texts(source, text, 800):
                found = outcome(read_kind, bent)
                self.assertEqual(found, told_kind(bent), bent)
                told.add(found[0])
        self.assertEqual(told, {True, "BadText", "Twice", "TooMany", "BadKind"})


class TestPrinting(TextCase):

    def test_examples(self):
        self.assertEqual(print_kind(("zero", "one", "three"), K), "zero one three: sizes 4: 0, 1, 3")
        self.assertEqual(print_kind(("on",), ((), ((),))), "on: sizes:")
        self.assertEqual(print_kind(kind=((2, 3), ((0, 1), (1, 0))), names=("a", "b")), "a b: sizes 2 3: 0 1, 1 0")
        self.assertEqual(print_kind(("a",), ((2, 2), ((0, 1),))), "a: sizes 2 2: 0 1")

    def test_there_and_back(self):
        source = random.Random(64)
        kinds = list(random_fields(source, 150)) + [kind_of(turn(n)) for n in range(1, 13)] + [kind_of(sides(2))]
        for n in (1, 2, 12):
            sizes = tuple(source.randrange(n + 1, GREAT) for _ in range(12))
            kinds.append((sizes, tuple(tuple(source.randrange(k, size, n) for size in sizes) for k in range(n))))
        for told in kinds:
            n = len(told[1])
            for names in NAME_SETS:
                names = tuple(source.sample(names, n))
                text = print_kind(names, told)
                self.assertEqual(read_kind(text), (names, told))
                self.assertEqual(print_kind(*read_kind(text)), text)

    def test_greater_than_what_is_read(self):
        for size in (GREAT + 1, 10 ** 900, 10 ** 999):
            text = print_kind(LONG_NAMES[:2], ((size,), ((0,), (size - 1,))))
            self.assertEqual(text, "%s %s: sizes %d: 0, %d" % (*LONG_NAMES[:2], size, size - 1))
            self.refuses(BadText, 33, read_kind, text)

    def test_refused(self):
        self.refuses_state_names(lambda names: print_kind(names, None))
        self.refuses_state_names(lambda names: print_kind(names, ((), ((),))))
        for thing in ODD + (((1,), ((0,),)), ((2,), ((2,),)), ((2,), ((0,), (0,)))):
            told = outcome(made_kind, thing)
            if told[0] is not True:
                self.assertEqual(outcome(print_kind, ("a",), thing), told)
        # The kind is asked ahead of how many names there are.
        self.refuses(BadKind, 0, print_kind, ("a", "b"), ((1,), ((0,),)))
        for n in range(1, 13):
            for many in range(1, 13):
                if n != many:
                    self.refuses(BadNames, -1, print_kind, LETTERS[:many], kind_of(turn(n)))


class TestQuickly(TextCase):

    def test_thousands(self):
        wide = ((2,) * 12, tuple(tuple(int(j == k) for j in range(12)) for k in range(12)))
        start = time.process_time()
        for _ in range(1000):
            read_kind(print_kind(LETTERS, wide))
        for _ in range(20):
            outcome(read_kind, "a: sizes%s: 0%s" % (" 2" * 4000, " 0" * 3999))
        self.assertLess(time.process_time() - start, 15)


if __name__ == "__main__":
    unittest.main()
