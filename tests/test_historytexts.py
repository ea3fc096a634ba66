"""[61] and [63]: histories as texts."""

import random
import time
import unittest

from editlots.errors import BadBase, BadHistory, BadNames, BadText, NoName
from editlots.histories import made_history
from editlots.historytexts import print_history, read_history

from helpers import Case, ODD, outcome, random_history
from reading import bent_texts, history, read
from textcase import LETTERS, NAME_SETS, TextCase

NAMES = ("off", "on")
STRANGE = ("edit", "first", "merge", "sizes")


def told_history(names, text):
    """What the second reader tells of it, and of that made_history."""
    told = read(history(names), text)
    return outcome(made_history, len(names), told[1]) if told[0] is True else told


class TestReading(TextCase):

    def test_example(self):
        told = (("first", 0), ("edit", 0, 1), ("merge", 0, 1, 0))
        self.assertEqual(read_history(NAMES, "first off; edit 0 on; merge 0 1 0"), told)
        self.assertEqual(print_history(NAMES, told), "first off; edit 0 on; merge 0 1 0")
        self.assertEqual(read_history(text="first on", names=NAMES), (("first", 1),))
        self.assertEqual(print_history(history=(("first", 1),), names=NAMES), "first on")

    def test_the_clash_of_the_document(self):
        text = "first off; edit 0 on; edit 1 off; edit 0 on; merge 0 1 3; merge 1 2 4; merge 0 2 3"
        told = (
            ("first", 0), ("edit", 0, 1), ("edit", 1, 0), ("edit", 0, 1), ("merge", 0, 1, 3), ("merge", 1, 2, 4),
            ("merge", 0, 2, 3),
        )
        self.assertEqual((read_history(NAMES, text), print_history(NAMES, told)), (told, text))
        self.refuses(BadBase, 5, read_history, NAMES, text.replace("merge 1 2 4", "merge 0 2 4"))

    def test_names_that_are_words_of_the_form(self):
        self.assertEqual(read_history(("first",), "first first"), (("first", 0),))
        told = (("first", 1), ("edit", 0, 0), ("edit", 0, 2), ("merge", 0, 1, 2), ("edit", 3, 3))
        text = "first first; edit 0 edit; edit 0 merge; merge 0 1 2; edit 3 sizes"
        self.assertEqual((read_history(STRANGE, text), print_history(STRANGE, told)), (told, text))
        self.refuses(BadText, 0, read_history, STRANGE, "edit first")
        self.refuses(BadText, 13, read_history, STRANGE, "first first; first edit")
        self.refuses(BadText, 18, read_history, STRANGE, "first first; edit first")

    def test_wrong_words(self):
        for text, error, what in (
            ("", BadText, 0), ("  ", BadText, 2), ("first", BadText, 5), ("first ", BadText, 6), ("off", BadText, 0),
            ("first 0", BadText, 6), ("first gap", BadText, 6), ("first any", BadText, 6), ("first X", BadText, 6),
            ("first half", NoName, 6), ("first off on", BadText, 10), ("first off,", BadText, 9),
            ("first off;", BadText, 10),
            ("first off; ; edit 0 on", BadText, 11), ("first off; on", BadText, 11), ("first off; edit", BadText, 15),
            ("first off; edit on 0", BadText, 16), ("first off; edit 0", BadText, 17),
            ("first off; edit 0 half", NoName, 18),
            ("first off; edit 0 0", BadText, 18), ("first off; edit 00 on", BadText, 16),
            ("first off; edit 01 on", BadText, 16),
            ("first off; edit 1234567 on", BadText, 16), ("first off; edit -1 on", BadText, 16),
            ("first off; edit 0 on 1", BadText, 21),
            ("first off; merge 0 0", BadText, 20), ("first off; merge 0 0 off", BadText, 21),
            ("first off; merge 0 0 0 0", BadText, 23),
            ("first off; merge", BadText, 16), ("first off; edit 0 on;", BadText, 21), ("first off: edit 0 on", BadText, 9),
            ("first off; edit 0on", BadText, 16), ("first off;edit 0 half; merge", NoName, 17), ("First off", BadText, 0),
        ):
            self.refuses(error, what, read_history, NAMES, text)

    def test_made_history_comes_behind_all_reading(self):
        for text, error, what in (
            ("first off; edit 1 on", BadHistory, 1), ("first off; edit 999999 on", BadHistory, 1),
            ("first off; merge 0 0 1", BadHistory, 1),
            ("first off; edit 0 on; merge 1 0 0", BadBase, 2),
            ("first off; edit 0 on; merge 1 0 0; edit 4 on", BadHistory, 3),
            ("first off; edit 1 on; edit 0 half", NoName, 29), ("first off; edit 1 on; edit", BadText, 26),
            ("first off" + "; edit 0 on" * 40, BadHistory, -1), ("first off" + "; edit 9 on" * 1800, BadHistory, -1),
            ("first off" + "; edit 0 on" * 40 + " on", BadText, 450),
            ("first off" + "; edit 0 on" * 40 + "; edit 0 one", NoName, 458),
        ):
            self.refuses(error, what, read_history, NAMES, text)
        self.assertEqual(len(read_history(NAMES, "first off" + "; edit 0 on" * 39)), 40)

    def test_names_ahead_of_texts(self):
        self.refuses_state_names(lambda names: read_history(names, "first a"))
        self.refuses_state_names(lambda names: read_history(names, None))
        self.refuses_no_texts(lambda text: read_history(("a",), text), "first a; edit 0 a")

    def test_bent_texts(self):
        source = random.Random(61)
        told = set()
        for names, text in (
            (NAMES, "first off; edit 0 on; merge 0 1 0"),
            (STRANGE, "first first; edit 0 edit; edit 0 merge; merge 0 1 2; edit 3 sizes"),
            (("a", "b"), "first a"), (("a", "b"), "first b" + "; edit 0 a; merge 0 0 0" * 19),
        ):
            told |= self.reads_bent_history(source, names, text)
        self.assertEqual(told, {True, "BadText", "NoName", "BadHistory", "BadBase"})

    def reads_bent_history(self, source, names, text):
        found = set()
        for bent in [text] + bent_texts(source, text, 800):
            told = outcome(read_history, names, bent)
            self.assertEqual(told, told_history(names, bent), bent)
            found.add(told[0])
        return found


class TestPrinting(TextCase):

    def test_there_and_back(self):
        source = random.Random(62)
        for n in range(1, 13):
            for names in NAME_SETS:
                names = tuple(source.sample(names, n))
                for rows in (1, 2, 10, 40):
                    told = random_history(source, n, rows)
                    text = print_history(names, told)
                    self.assertEqual(read_history(names, text), told)
                    self.assertEqual(text, self.plainly(names, told))

    def plainly(self, names, told):
        rows = []
        for row in told:
            last = str(row[-1]) if row[0] == "merge" else names[row[-1]]
            rows.append(" ".join([row[0]] + [str(number) for number in row[1:-1]] + [last]))
        return "; ".join(rows)

    def test_refused(self):
        self.refuses_state_names(lambda names: print_history(names, None))
        self.refuses_state_names(lambda names: print_history(names, (("first", 0),)))
        for thing in ODD + ((("first", 2),), (("edit", 0, 0),), (("first", 0),) * 41):
            told = outcome(made_history, 2, thing)
            if told[0] is not True:
                self.assertEqual(outcome(print_history, NAMES, thing), told)
        # As many names as states decide what a history is.
        told = (("first", 0), ("edit", 0, 2))
        self.refuses(BadHistory, 1, print_history, NAMES, told)
        self.assertEqual(print_history(LETTERS[:3], told), "first a; edit 0 c")
        self.refuses(BadBase, 2, print_history, NAMES, (("first", 0), ("edit", 0, 1), ("merge", 1, 0, 0)))
        self.refuses(BadHistory, -1, print_history, NAMES, ())
        self.refuses(BadNames, 1, print_history, ("a", "a"), ())


class TestQuickly(Case):

    def test_thousands(self):
        source = random.Random(63)
        told = random_history(source, 12, 40)
        start = time.process_time()
        for _ in range(2000):
            read_history(LETTERS, print_history(LETTERS, told))
        for _ in range(20):
            outcome(read_history, NAMES, "first off" + "; edit 9 on" * 1800)
        self.assertLess(time.process_time() - start, 15)


if __name__ == "__main__":
    unittest.main()
