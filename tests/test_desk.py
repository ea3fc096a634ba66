"""[64] to [69]: the desk."""

import random
import time
import unittest

from editlots.branches import Branches
from editlots.desk import Desk
from editlots.errors import BadFields, BadNames, BadRecord, NothingBack
from editlots.judge import why
from editlots.kernel import clash_right
from editlots.tables import once
from editlots.vault import Vault

from branching import NO_NAMES
from desking import PlainDesk
from drawn import K, ONE, PAIRS, random_fields, random_record, wrong_records
from helpers import Case, ODD
from reading import bent_texts, respaced, words_with_places
from textcase import LETTERS, NAME_SETS, NO_TEXTS

ZERO = ("zero", "one", "three")
EXAMPLES = (
    ("commit main one", "ok 0"), ("commit main three", "ok 1"), ("record main", "three"), ("log main", "0: 1 | 1: 2"),
    ("start side 1", "ok"), ("record side", "gap"), ("barred side", "0"), ("merge side main", "ok"), ("head side", "0 1"),
    ("out side 0", "ok"), ("pick side 1", "refused: HasEdit 1"), ("head none", "refused: NoBranch none"),
    ("commit main two", "refused: NoName 12"), ("names", "main side"), ("judge off on: any any any -> turn", "clocks 2"),
    ("judge a: a a a -> gap", "refused: Gaps a a a"), ("ask a b c: a b b -> c | a b b", "forced c"),
    ("ask a b: a b b -> b | a b b", "fallen a b"), ("jump", "refused: BadText 0"),
)


def new_desk():
    """The desk of the document, at first."""
    return Desk((((4,), ((0,), (1,), (3,))),), (("zero", "one", "three"),), (0,))


def example_desk():
    """The desk of the document, behind its rows."""
    desk = new_desk()
    for text, _ in EXAMPLES:
        desk.row(text)
    return desk


class DeskCase(Case):

    def answers(self, desk, *rows):
        """The desk answers each row so."""
        for text, told in rows:
            self.assertEqual(desk.row(text), told, text[:300])

    def keeps(self, desk, *rows):
        """The desk answers each row so, and nothing changes."""
        for text, told in rows:
            before = desk.text()
            self.assertEqual(desk.row(text), told, repr(text)[:300])
            self.assertEqual(desk.text(), before)


class TestMaking(DeskCase):

    def test_attributes(self):
        names = (ZERO, ("x",))
        desk = Desk(record=(2, 0), names=names, fields=(K, ONE))
        self.assertIs(type(desk.vault), Vault)
        self.assertIs(type(desk.branches), Branches)
        self.assertIs(desk.names, names)
        self.assertEqual((desk.vault.fields(), desk.vault.first(), desk.vault.edits()), ((K, ONE), (2, 0), 0))
        self.assertEqual((desk.branches.names(), desk.branches.head("main")), (("main",), ()))
        self.assertEqual(desk.text(), "fields 2 | main -")

    def test_only_the_start_of_main_can_be_undone(self):
        desk = new_desk()
        self.answers(desk, ("back", "ok"), ("names", "-"), ("head main", "refused: NoBranch main"))
        self.keeps(desk, ("back", "refused: NothingBack 0"))
        self.assertEqual(desk.text(), "fields 1")
        self.answers(desk, ("again", "ok"), ("head main", "-"), ("again", "refused: NothingAgain 0"))

    def test_branches_are_those_of_the_vault(self):
        desk = new_desk()
        desk.branches.commit("main", (1,))
        desk.vault.edit((), (2,))
        desk.branches.start("gap", (1,))
        self.answers(
            desk, ("head main", "0"), ("pick main 1", "ok"), ("names", "gap main"), ("head gap", "refused: BadText 5"),
            ("merge main gap", "refused: BadText 11"),
        )
        self.assertEqual(desk.text(), "fields 1 | 0 on -: 1 | 1 on -: 3 | gap 1 | main 0 1")
        self.assertEqual(desk.branches.head("main"), (0, 1))
        desk.row("back")
        desk.row("back")
        desk.row("back")
        desk.branches.back()
        self.refuses(NothingBack, 0, desk.branches.back)

    def test_no_fields(self):
        for thing in (None, True, 0, "", (), (K,) * 7):
            self.refuses(BadFields, -1, Desk, thing, (ZERO,), (0,))
            self.refuses(BadFields, -1, Desk, thing, None, None)
        self.refuses(BadFields, 1, Desk, (K, K[1], None), None, None)

    def test_no_names(self):
        fields = (K, ONE, PAIRS)
        right = (ZERO, ("x",), ("a", "b", "c", "d"))
        Desk(fields, right, (0, 0, 0))
        for thing in (None, True, 0, "", "abc", (), right[:2], right + (("a",),), (right,), ZERO[:2]):
            self.refuses(BadNames, -1, Desk, fields, thing, (0, 0, 0))
            self.refuses(BadNames, -1, Desk, fields, thing, None)
        for field, names in enumerate(right):
            wrong = [None, True, 0, "", "abc", (), names[:-1], names + ("y",), (None,) * len(names), names[:-1] + (names,)]
            wrong += [names[:-1] + (name,) for name in NO_NAMES + ("gap", "turn", "any")]
            wrong += [names[:k] + names[:1] + names[k + 1:] for k in range(1, len(names))]
            for part in wrong:
                self.refuses(BadNames, field, Desk, fields, right[:field] + (part,) + right[field + 1:], (0, 0, 0))
                self.refuses(BadNames, field, Desk, fields, right[:field] + (part,) + (None,) * (2 - field), None)
        # Two fields may have the same names.
        self.assertEqual(Desk((K, K), (ZERO, ZERO), (0, 1)).row("record main"), "zero one")

    def test_no_record(self):
        for thing, what in wrong_records((K, PAIRS)):
            self.refuses(BadRecord, what, Desk, (K, PAIRS), (ZERO, ("a", "b", "c", "d")), thing)


class TestExamples(DeskCase):

    def test_rows(self):
        self.answers(new_desk(), *EXAMPLES)

    def test_text(self):
        text = "fields 1 | 0 on -: 1 | 1 on 0: 2 | main 0 1 | side 1"
        desk = example_desk()
        self.assertEqual(desk.text(), text)
        # Questions and refused rows change nothing.
        self.keeps(desk, *[row for row in EXAMPLES[8:] if row[0] not in ("out side 0", "head side")])
        self.assertEqual(desk.text(), text)

    def test_row_by_name(self):
        self.assertEqual(new_desk().row(text="names"), "main")


class TestDeeds(DeskCase):

    def test_start(self):
        desk = example_desk()
        self.answers(
            desk, ("start a -", "ok"), ("start b 0 1", "ok"), ("start start 1", "ok"), ("head start", "1"),
            ("head b", "0 1"),
            ("head a", "-"), ("  start   c-  ", "ok"),
        )
        self.keeps(
            desk, ("start a -", "refused: HasBranch a"), ("start a 2", "refused: BadLot 2"),
            ("start d 1 0", "refused: BadLot -1"),
            ("start d 0 0", "refused: BadLot -1"), ("start d 399", "refused: BadLot 399"),
            ("start d 400", "refused: BadLot -1"),
            ("start d 999999", "refused: BadLot -1"), ("start d 1000000", "refused: BadText 8"),
            ("start d 00", "refused: BadText 8"),
            ("start d", "refused: BadText 7"), ("start", "refused: BadText 5"), ("start d - 1", "refused: BadText 10"),
            ("start d - -", "refused: BadText 10"), ("start d 0 -", "refused: BadText 10"),
            ("start d 0,1", "refused: BadText 9"),
            ("start gap -", "refused: BadText 6"), ("start D -", "refused: BadText 6"), ("start 1 -", "refused: BadText 6"),
            ("start abcdefghijklm -", "refused: BadText 6"), ("start d one", "refused: BadText 8"),
            ("start d 0 1 2 5", "refused: BadLot 2"),
            ("start d ->", "refused: BadText 8"), ("start d 3 2", "refused: BadLot -1"),
        )

    def test_commit(self):
        desk = Desk((K, ONE), (ZERO, ("x",)), (0, 0))
        self.answers(desk, ("commit main one x", "ok 0"), ("commit main one x", "ok 1"), ("record main", "one x"))
        self.keeps(
            desk, ("commit none one x", "refused: NoBranch none"), ("commit none two x", "refused: NoName 12"),
            ("commit main one", "refused: BadText 15"), ("commit main one y", "refused: NoName 16"),
            ("commit main x one", "refused: NoName 12"), ("commit main one x x", "refused: BadText 18"),
            ("commit main one gap", "refused: BadText 16"), ("commit main 1 x", "refused: BadText 12"),
            ("commit main X x", "refused: BadText 12"), ("commit main", "refused: BadText 11"),
            ("commit", "refused: BadText 6"),
            ("commit gap one x", "refused: BadText 7"), ("commit main one, x", "refused: BadText 15"),
        )
        self.assertEqual(desk.text(), "fields 2 | 0 on -: 1 / - | 1 on 0: 0 / - | main 0 1")

    def test_commit_to_a_full_vault(self):
        desk = new_desk()
        for number in range(400):
            self.assertEqual(desk.row("commit main " + ZERO[number % 3]), "ok %d" % number)
        self.keeps(desk, ("commit main zero", "refused: Full 400"), ("commit main two", "refused: NoName 12"))
        self.answers(desk, ("record main", "zero"), ("head main", " ".join(map(str, range(400)))))

    def test_merge_pick_out_drop(self):
        desk = example_desk()
        self.answers(
            desk, ("merge side side", "ok"), ("merge side main", "ok"), ("head side", "0 1"), ("out side 1", "ok"),
            ("pick side 1", "ok"), ("drop side", "ok"), ("names", "main"), ("back", "ok"), ("back", "ok"),
            ("head side", "0"),
            ("again", "ok"), ("head side", "0 1"), ("again", "ok"), ("names", "main"),
        )
        self.keeps(
            desk, ("merge main side", "refused: NoBranch side"), ("merge side main", "refused: NoBranch side"),
            ("merge main", "refused: BadText 10"), ("merge main main main", "refused: BadText 16"),
            ("merge", "refused: BadText 5"),
            ("pick main 2", "refused: NoEdit 2"), ("pick main 999999", "refused: NoEdit 999999"),
            ("pick main 0", "refused: HasEdit 0"),
            ("pick main -", "refused: BadText 10"), ("pick main", "refused: BadText 9"),
            ("pick main 0 1", "refused: BadText 12"),
            ("pick side 9", "refused: NoBranch side"), ("out main 2", "refused: NoEdit 2"),
            ("out main 02", "refused: BadText 9"),
            ("out main", "refused: BadText 8"), ("out main 0 0", "refused: BadText 11"),
            ("drop side", "refused: NoBranch side"),
            ("drop", "refused: BadText 4"), ("drop main main", "refused: BadText 10"), ("back main", "refused: BadText 5"),
            ("again 1", "refused: BadText 6"), ("again", "refused: NothingAgain 0"),
            ("take_out main 0", "refused: BadText 0"),
        )
        self.answers(desk, ("out main 0", "ok"), ("out main 0", "refused: LacksEdit 0"))

    def test_fifty_deeds(self):
        desk = new_desk()
        desk.row("commit main one")
        for _ in range(30):
            desk.row("out main 0")
            desk.row("pick main 0")
        for _ in range(50):
            self.assertEqual(desk.row("back"), "ok")
        self.keeps(desk, ("back", "refused: NothingBack 0"))
        for _ in range(50):
            self.assertEqual(desk.row("again"), "ok")
        self.keeps(desk, ("again", "refused: NothingAgain 0"))


class TestQuestions(DeskCase):

    def test_branches(self):
        desk = Desk((K, ONE, PAIRS), (ZERO, ("x",), ("a", "b", "c", "d")), (0, 0, 1))
        self.answers(
            desk, ("head main", "-"), ("record main", "zero x b"), ("barred main", "-"), ("log main", "-"),
            ("names", "main"),
            ("commit main one x d", "ok 0"), ("commit main three x a", "ok 1"), ("start s 1", "ok"),
            ("log main", "0: 1 / - / 1 1 | 1: 2 / - / 1 1"), ("record s", "gap x d"), ("barred s", "0"),
            ("log s", "1: 2 / - / 1 1"),
            ("head s", "1"), ("names", "main s"), ("drop main", "ok"), ("drop s", "ok"), ("names", "-"),
        )
        for word in ("head", "record", "barred", "log"):
            self.keeps(
                desk, (word + " main", "refused: NoBranch main"), (word, "refused: BadText %d" % len(word)),
                (word + " any", "refused: BadText %d" % (len(word) + 1)),
                (word + " a a", "refused: BadText %d" % (len(word) + 3)),
                (word + " 0", "refused: BadText %d" % (len(word) + 1)),
            )
        self.keeps(desk, ("names main", "refused: BadText 6"))
        self.assertEqual(desk.text(), "fields 3 | 0 on -: 1 / - / 1 1 | 1 on 0: 2 / - / 1 1")

    def test_judge(self):
        desk = new_desk()
        self.keeps(
            desk, ("judge a: any any any -> turn", "clocks -"), ("judge a b c d e f: any any any->turn", "clocks 2 3"),
            ("judge a b c d: any any any -> turn", "clocks 4"), ("judge a b: a a a -> a", "refused: Gaps a a b"),
            ("judge x y: X X Y -> Y; X Y X -> Y", "refused: Gaps x y y"), ("judge a: a a a -> b", "refused: NoName 18"),
            ("judge a: a a a -> X", "refused: NoVariable 18"), ("judge a a: a a a -> a", "refused: Twice 8"),
            ("judge", "refused: BadText 5"),
            ("judge a:", "refused: BadText 8"), ("judge a: a a a -> a;", "refused: BadText 20"),
            ("judge: a a a -> a", "refused: BadText 5"),
            ("judge a b c d e f g h i j k l m: a", "refused: TooMany 30"),
            ("judge a: a a a -> a | a", "refused: BadText 20"),
            ("judge a: " + "a a a -> a;" * 40 + "a a a -> a", "refused: TooMany 449"),
        )

    def test_judge_tells_a_clash(self):
        desk = new_desk()
        text = "judge off on: X X Y -> Y; X Y X -> Y; X Y Y -> Y"
        _, history, i, j = why(once(2))
        rows = []
        for row in history:
            rows.append(" ".join(map(str, row[:-1] + (("off", "on")[row[-1]] if row[0] != "merge" else row[-1],))))
        self.keeps(desk, (text, "clash %s | %d %d" % ("; ".join(rows), i, j)))
        self.assertTrue(clash_right(once(2), history, i, j))

    def test_ask(self):
        self.keeps(
            new_desk(), ("ask a b: | a b b", "could a"), ("ask a: | a a a", "forced a"), ("ask a b: | b a b", "forced a"),
            ("ask a b c: a b b -> c; a c c -> a | a b c", "could -"),
            ("ask a b c: a b b -> c; a c c -> a | c b b", "forced a"),
            ("ask a b c: | a b c", "could a"), ("ask a b c d: | a b c", "could a d"),
            ("ask c b a: c a a -> a | c c c", "fallen c a"),
            ("ask a b: a b b -> b | a b", "refused: BadText 25"), ("ask a b: a b b -> b", "refused: BadText 19"),
            ("ask a b: a b b -> b | a b c", "refused: NoName 26"), ("ask a b: | a b gap", "refused: BadText 15"),
            ("ask", "refused: BadText 3"),
            ("ask a b:", "refused: BadText 8"), ("ask a b: ; | a b b", "refused: BadText 9"),
            ("ask a b: a b b -> b; | a b b", "refused: BadText 21"),
            ("ask a b | a b b", "refused: BadText 8"), ("ask a b: | a b b a", "refused: BadText 17"),
            ("ask a b: | | a b", "refused: BadText 11"),
            ("ask a b: a b b -> b, a", "refused: BadText 19"), ("ask a a: | a a a", "refused: Twice 6"),
            ("ask a b: | a b any", "refused: BadText 15"),
            ("ask a:" + "a a a->a;" * 2000 + "a", "refused: TooMany 18006"),
            ("ask a:" + ("a a a->a;" * 2000)[:-1] + "|a a a", "forced a"),
        )

    def test_strange_first_words(self):
        desk = example_desk()
        for text, what in (
            ("", 0), ("   ", 3), ("jump main", 0), ("  jump", 2), ("Start a -", 0), ("main", 0), ("-", 0), ("0", 0),
            (";", 0), ("heads main", 0),
            ("head-main", 4), ("head main;", 9), ("backagain", 0), ("back;", 4), ("gap", 0), ("fields 1", 0),
            ("names -", 6), ("log main |", 9),
            ("startt a -", 0), ("back back", 5), ("take main", 0), ("edit 0 one", 0),
        ):
            self.keeps(desk, (text, "refused: BadText %d" % what))

    def test_no_texts(self):
        desk = example_desk()
        for text, what in NO_TEXTS:
            self.keeps(desk, (text, "refused: BadText %d" % what))
        self.keeps(desk, ("head main".ljust(20000), "0 1"), ("head main".ljust(20001), "refused: BadText 20000"))
        for thing in ODD:
            if type(thing) is not str:
                self.keeps(desk, (thing, "refused: BadText -1"))
        self.keeps(desk, ("head main\n", "refused: BadText 9"), ("%head main", "refused: BadText 0"),
        ("drop main \u00e9", "refused: BadText 10"))


ROWS = (
    "start side 0 1", "start side -", "commit main one x", "merge main side", "pick main 1", "out main 0", "drop side",
    "back",
    "again", "head main", "record main", "barred main", "names", "log main", "judge off on: X X Y -> Y; any any any -> turn",
    "judge a b: X Y Y -> Y; any any any -> turn", "ask a b c: a b b -> c; a c c -> a | a b c", "ask a b: | b a b",
    "drop head",
)


def drawn_row(source, desk, names):
    """Any row, some of them wrong; more of them deeds."""
    edits = desk.vault.edits()
    name, other = source.choice(names), source.choice(names)
    lot = sorted(source.sample(range(edits + 1), source.randrange(min(edits + 1, 4) + 1)))
    record = " ".join(source.choice(told + ("two",) * (source.randrange(9) == 0)) for told in desk.names)
    number = source.randrange(edits + 1)
    return source.choice((
        "start %s %s" % (name, " ".join(map(str, lot)) or "-"), "commit %s %s" % (name, record),
        "commit %s %s" % (name, record),
        "merge %s %s" % (name, other), "pick %s %d" % (name, number), "out %s %d" % (name, number), "drop %s" % name, "back",
        "back", "again", "again", "head %s" % name, "record %s" % name, "barred %s" % name, "log %s" % name, "names",
        source.choice(ROWS),
    ))


class TestBesideThePlainDesk(DeskCase):

    def desks(self, fields, names, record):
        return Desk(fields, names, record), PlainDesk(fields, names, record)

    def test_bent_rows(self):
        source = random.Random(66)
        names = (ZERO, ("x",))
        for text in ROWS:
            desk, plain = self.desks((K, ONE), names, (0, 0))
            for row in (
                "commit main one x", "commit main three x", "start head 1", "start side 0", "out main 0", "back", "back",
            ):
                self.assertEqual(desk.row(row), plain.row(row))
            for bent in [text] + bent_texts(source, text, 150):
                self.assertEqual(desk.row(bent), plain.row(bent), bent)
            self.assertEqual(desk.text(), plain.text())

    def test_long_rows_of_deeds_and_questions(self):
        source = random.Random(67)
        for many in (1, 2, 3, 6):
            for _ in range(3):
                fields = random_fields(source, many)
                sets = [source.choice(NAME_SETS[2:] + (LETTERS,)) for _ in fields]
                names = tuple(tuple(source.sample(told, len(hands))) for told, (_, hands) in zip(sets, fields))
                desk, plain = self.desks(fields, names, random_record(source, fields))
                refused = 0
                for _ in range(400):
                    row = drawn_row(source, desk, ("main", "main", "s", "t1"))
                    told = desk.row(row)
                    self.assertEqual(told, plain.row(row), row)
                    refused += told.startswith("refused: ")
                    if source.randrange(8) == 0:
                        row = respaced(source, [word for _, word in words_with_places(row)][:-1])
                        self.assertEqual(desk.row(row), plain.row(row), row)
                self.assertEqual(desk.text(), plain.text())
                self.assertGreater(min(refused, 400 - refused), 60)


class TestQuickly(DeskCase):

    def test_a_desk_with_400_edits(self):
        desk = Desk((K,) * 6, (ZERO,) * 6, (0,) * 6)
        start = time.process_time()
        for number in range(400):
            desk.row("commit main " + " ".join(ZERO[(number + k) % 3] for k in range(6)))
        desk.row("start side " + " ".join(map(str, range(0, 400, 2))))
        for number in range(1000):
            for row in (
                "head main", "record main", "barred side", "merge side side", "pick side %d" % number, "out main 399",
                "back", "names",
            ):
                desk.row(row)
        for _ in range(200):
            desk.row("log main")
            desk.text()
        self.assertLess(time.process_time() - start, 20)

    def test_long_rows(self):
        desk = new_desk()
        rows = "; ".join(
            "%s %s %s -> %s" % tuple(LETTERS[k // size % 12] for size in (1, 12, 9, 5)) for k in range(1200)
        )
        start = time.process_time()
        for text in (
            " " * 20000, "a" * 20000, "->" * 10000, "start a " + "1 " * 9996, "start a " + "- " * 9996,
            "head " + "a" * 19995, "0" * 20001,
            "ask a:" + ("a a a->a;" * 2000)[:-1] + "|a a a", "ask " + " ".join(LETTERS) + ": " + rows + " | a b c",
            "ask a b: " + "|" * 19000,
            "judge " + " ".join(LETTERS) + ": " + "; ".join(["any X X -> gap; X any Y -> turn"] * 20),
            "judge a: " + "a " * 9995,
        ):
            for _ in range(20):
                desk.row(text)
        for _ in range(3000):
            desk.row("judge off on: X X Y -> Y; X Y X -> Y; X Y Y -> X")
            desk.row("ask a b c: a b b -> c; a c c -> a | a b c")
        self.assertLess(time.process_time() - start, 30)


if __name__ == "__main__":
    unittest.main()
