"""[58] to [60] and [63]: rules and told rows as texts."""

import itertools
import random
import time
import unittest

from editlots.errors import BadNames, BadText, BadTold, NoName, NoVariable, TooMany, Twice
from editlots.ruletexts import print_told, read_rules, read_told
from editlots.tables import greater, once, sides, turn
from editlots.told import told_of

from helpers import all_gaps, ODD
from reading import respaced, rule_table, told_rows
from textcase import LETTERS, LONG_NAMES, NAME_SETS, TextCase


def rules_text(source, names, rules):
    """The text of rules that are told as three items and a result."""
    words = list(names) + [":"]
    for k, (items, result) in enumerate(rules):
        words += [";"] * (k > 0) + list(items) + ["->", result]
    return respaced(source, words)


def drawn_rule(source, names):
    """Any right rule over these names."""
    words = names + ("any", "X", "Y", "Z", "X")
    items = [source.choice(words) for _ in range(3)]
    letters = [item for item in items if item in ("X", "Y", "Z")]
    return items, source.choice(names + ("gap", "turn", "turn") + tuple(letters) * 3)


class TestReadingRules(TextCase):

    def test_examples(self):
        self.assertEqual(read_rules("off on: X X Y -> Y; X Y X -> Y; X Y Y -> X"), (("off", "on"), turn(2)))
        self.assertEqual(read_rules("off on: any any any -> turn"), (("off", "on"), turn(2)))
        self.assertEqual(
            read_rules("a b: a any a -> b; X Y Z -> X"), (("a", "b"), (((1, 0), (1, 0)), ((1, 1), (1, 1))))
        )
        self.refuses(NoVariable, 14, read_rules, "a b: X Y X -> Z")
        self.refuses(NoName, 7, read_rules, "a b: a c")
        self.refuses(Twice, 2, read_rules, "a a:")
        self.refuses(BadText, 18, read_rules, "a b: a a a -> gap;")

    def test_told_tables(self):
        still = "X X Y -> Y; X Y X -> Y"
        for n in range(1, 13):
            names = " ".join(LETTERS[:n])
            self.assertEqual(read_rules(names + ": any any any -> turn"), (LETTERS[:n], turn(n)))
            self.assertEqual(read_rules(names + ": " + still)[1], sides(n))
            self.assertEqual(read_rules(names + ": any X X -> X; " + still)[1], once(n))
            self.assertEqual(read_rules(names + ": any any any -> gap")[1], all_gaps(n))
        ahead = "; ".join("any %s any -> %s; any any %s -> %s" % ((name,) * 4) for name in "dcba")
        self.assertEqual(read_rules("a b c d: any X X -> X; " + still + "; " + ahead)[1], greater(4))

    def test_the_first_rule_that_fits(self):
        for text, entries in (
            ("a b: a a a -> b; a a a -> a", (((1, None), (None, None)), ((None, None), (None, None)))),
            ("a b: a a a -> gap; any any any -> b", (((None, 1), (1, 1)), ((1, 1), (1, 1)))),
            ("a b: any any any -> b; a a a -> gap", (((1, 1), (1, 1)), ((1, 1), (1, 1)))),
            ("a b: X Y any -> Y; any any X -> X", (((0, 0), (1, 1)), ((0, 0), (1, 1)))),
            ("a b: b X X -> X; X a X -> b", (((1, None), (None, None)), ((0, 1), (None, 1)))),
            ("a b: X X X -> X; Q a Q -> gap; b any any -> turn", (((0, None), (None, None)), ((1, None), (0, 1)))),
        ):
            self.assertEqual(read_rules(text)[1], entries)

    def test_letters(self):
        self.assertEqual(read_rules("a: A Z A -> Z"), read_rules("a: A A A -> A"))
        # Letter words are no names, and a letter means nothing in another rule.
        self.refuses(NoVariable, 26, read_rules, "a b: X a a -> X; Y b b -> X")
        self.refuses(NoVariable, 20, read_rules, "a b: any any any -> X")
        self.refuses(BadText, 5, read_rules, "a b: XY a a -> a")
        self.refuses(BadText, 14, read_rules, "a b: X a a -> XX")
        for letter in "ABCDEFGHIJKLMNOPQRSTUVWXYZ":
            table = read_rules("a b: any any %s -> %s" % (letter, letter))[1]
            self.assertEqual(table, (((0, 1), (0, 1)), ((0, 1), (0, 1))))

    def test_wrong_words(self):
        for text, error, what in (
            ("a:", BadText, 2), ("a: ", BadText, 3), ("a: gap a a -> a", BadText, 3), ("a: turn a a -> a", BadText, 3),
            ("a: a a -> a", BadText, 7), ("a: a a a a -> a", BadText, 9), ("a: a a a -> any", BadText, 12),
            ("a: a a a -> a a", BadText, 14), ("a: a a a -> a, a", BadText, 13), ("a: a a a -> a;;", BadText, 14),
            ("a: a a a - > a", BadText, 9), ("a: a a a -", BadText, 9), ("a: a a a ->", BadText, 11),
            ("a: a a a->a", None, None),
            ("a: a a a -> b", NoName, 12), ("a: a a b -> a", NoName, 7), ("a: any any any -> 0", BadText, 18),
            ("a: 0 a a -> a", BadText, 3),
            ("a: x a a -> a", NoName, 3), ("a: X X X -> Y; b", NoVariable, 12), ("a: a a a -> a; b a a -> a", NoName, 15),
            ("a: a a a -> turn; turn", BadText, 18), ("a: a a a -> a |", BadText, 14), (": a a a -> a", BadText, 0),
            ("", BadText, 0),
        ):
            if error is None:
                self.assertEqual(read_rules(text), (("a",), turn(1)))
            else:
                self.refuses(error, what, read_rules, text)

    def test_forty_rules(self):
        for many in (1, 39, 40):
            text = "a: " + "; ".join(["a a a -> a"] * many)
            self.assertEqual(read_rules(text), (("a",), turn(1)))
        rule = "a a a -> a; "
        for text, error, what in (
            (rule * 40 + "a a a -> a", TooMany, 483), (rule * 40 + "b", TooMany, 483), (rule * 40 + "any", TooMany, 483),
            (rule * 40 + "X", TooMany, 483), (rule * 40, BadText, 483), (rule * 40 + "gap", BadText, 483),
            (rule * 40 + "; a", BadText, 483), (rule * 39 + "b", NoName, 471), (rule * 39 + "a a a -> a; ", BadText, 483),
        ):
            self.refuses(error, what, read_rules, "a: " + text)

    def test_no_texts(self):
        self.refuses_no_texts(read_rules, "a b: X any any -> X")

    def test_beside_a_reckoning(self):
        source = random.Random(59)
        for n in list(range(1, 7)) * 12 + [12]:
            names = tuple(source.sample(source.choice(NAME_SETS), n))
            rules = [drawn_rule(source, names) for _ in range(source.choice((1, 2, 3, 8, 40)))]
            self.assertIs(self.reads(read_rules, rule_table, rules_text(source, names, rules)), True)

    def test_all_small_rules(self):
        words = ("a", "b", "any", "X", "Y")
        for items in itertools.product(words, repeat=3):
            for result in ("a", "gap", "turn", "X", "Y", "Z", "any"):
                self.reads(read_rules, rule_table, "a b: %s %s %s -> %s" % (*items, result))

    def test_bent_texts(self):
        source = random.Random(60)
        told = set()
        for text in (
            "off on: X X Y -> Y; X Y X -> Y; X Y Y -> X", "a b: a any a -> b; X Y Z -> X", "a: any any any->turn",
            "a b c d e f g h i j k l: a b c -> d; X any l -> gap", "a b: " + "; ".join(["a b X -> X"] * 40),
        ):
            told |= self.reads_bent(source, read_rules, rule_table, text, 500 if len(text) < 200 else 150)
        self.assertEqual(told, {True, "BadText", "NoName", "Twice", "TooMany", "NoVariable"})

    def test_by_name(self):
        self.assertEqual(read_rules(text="a: a a a -> a"), (("a",), turn(1)))


class TestToldRows(TextCase):

    def test_examples(self):
        names, told = ("a", "b", "c"), (3, ((0, 1, 1, 2), (0, 2, 2, 0)))
        self.assertEqual(read_told("a b c: a b b -> c; a c c -> a"), (names, told))
        self.assertEqual(print_told(names, told), "a b c: a b b -> c; a c c -> a")
        self.assertEqual(read_told("a b:"), (("a", "b"), (2, ())))
        self.assertEqual(print_told(("a", "b"), (2, ())), "a b:")

    def test_wrong_words(self):
        for text, error, what in (
            ("", BadText, 0), ("a", BadText, 1), ("a: a", BadText, 4), ("a: ;", BadText, 3), ("a: a a a -> a;", BadText, 14),
            ("a: a a a -> a; ;", BadText, 15), ("a: a a a -> gap", BadText, 12), ("a: a a a -> turn", BadText, 12),
            ("a: any a a -> a", BadText, 3), ("a: X a a -> a", BadText, 3), ("a: a gap a -> a", BadText, 5),
            ("a: a a a a", BadText, 9),
            ("a: b a a -> a", NoName, 3), ("a: a b a -> a", NoName, 5), ("a: a a b -> a", NoName, 7),
            ("a: a a a -> b", NoName, 12),
            ("a: a a a -> a |", BadText, 14), ("a: |", BadText, 3), ("a: a a a -> a, a", BadText, 13), ("a a: ", Twice, 2),
            ("a: a a a -> a a", BadText, 14), ("a: a a a a a", BadText, 9), ("a: 0", BadText, 3), ("a::", BadText, 2),
        ):
            self.refuses(error, what, read_told, text)

    def test_2000_rows(self):
        row = "a a a->a;"
        for many in (1, 1999, 2000):
            self.assertEqual(read_told("a:" + (row * many)[:-1]), (("a",), (1, ((0, 0, 0, 0),) * many)))
        for text, error, what in (
            (row * 2000 + "a a a->a", TooMany, 18002), (row * 2000 + "b", TooMany, 18002), (row * 2000, BadText, 18002),
            (row * 2000 + "gap", BadText, 18002), (row * 2000 + "X", BadText, 18002), (row * 1999 + "b", NoName, 17993),
        ):
            self.refuses(error, what, read_told, "a:" + text)

    def test_no_texts(self):
        self.refuses_no_texts(read_told, "a b: a b b -> a")

    def test_bent_texts(self):
        source = random.Random(61)
        told = set()
        for text in (
            "a b c: a b b -> c; a c c -> a", "a b:", "on: on on on->on", " ".join(LETTERS) + ": a b c -> l",
            "a:" + ("a a a->a;" * 2000)[:-1],
        ):
            told |= self.reads_bent(source, read_told, told_rows, text, 600 if len(text) < 200 else 30)
        self.assertEqual(told, {True, "BadText", "NoName", "Twice", "TooMany"})

    def test_there_and_back(self):
        source = random.Random(62)
        for n in range(1, 13):
            for names in NAME_SETS:
                names = tuple(source.sample(names, n))
                for many in (0, 1, 5, 60, 250):
                    rows = tuple(tuple(source.randrange(n) for _ in range(4)) for _ in range(many))
                    text = print_told(names, (n, rows))
                    self.assertEqual(read_told(text), (names, (n, rows)))
                    self.assertEqual(print_told(*read_told(text)), text)
        self.reads_respaced(source, read_told, "a b c: a b b -> c; a c c -> a")

    def test_rows_of_tables(self):
        for table in (turn(5), once(4), sides(3), all_gaps(2)):
            n = len(table)
            told = told_of(table)
            self.assertEqual(read_told(print_told(LETTERS[:n], told)), (LETTERS[:n], told))

    def test_longer_than_a_text(self):
        text = print_told(LONG_NAMES, (12, ((0, 1, 2, 3),) * 2000))
        self.assertEqual(text.count(";"), 1999)
        self.refuses(BadText, 20000, read_told, text)

    def test_printing_refused(self):
        self.refuses_state_names(lambda names: print_told(names, None))
        self.refuses_state_names(lambda names: print_told(names, (12, ())))
        for thing in ODD + ((13, ()), (0, ()), (1, ((0, 0, 0, 0),) * 2001)):
            self.refuses(BadTold, -1, print_told, ("a",), thing)
        self.refuses(BadTold, 1, print_told, ("a",), (2, ((0, 0, 0, 1), (0, 0, 0, 2))))
        for n in range(1, 13):
            for many in range(1, 13):
                if n != many:
                    self.refuses(BadNames, -1, print_told, LETTERS[:many], (n, ((0, 0, 0, 0),)))
                    self.refuses(BadNames, -1, print_told, LETTERS[:many], (n, ()))

    def test_by_name(self):
        self.assertEqual(print_told(told=(1, ()), names=("a",)), "a:")
        self.assertEqual(read_told(text="a:"), (("a",), (1, ())))


class TestQuickly(TextCase):

    def test_great_texts(self):
        many = "; ".join(["%s any X -> X; any %s any -> turn; any any %s -> gap" % ((name,) * 3) for name in LETTERS])
        rows = "a:" + ("a a a->a;" * 2000)[:-1]
        start = time.process_time()
        for _ in range(100):
            read_rules(" ".join(LETTERS) + ": " + many)
            read_rules(" ".join(LETTERS) + ": any any any -> turn")
            read_rules(" ".join(LETTERS) + ": any X X -> gap; X any X -> X; X X any -> X; a b c -> d")
            print_told(*read_told(rows))
        for _ in range(3000):
            read_rules("off on: X X Y -> Y; X Y X -> Y; X Y Y -> X")
        self.assertLess(time.process_time() - start, 15)


if __name__ == "__main__":
    unittest.main()
