"""A plain desk: its rows are read by the second reader, and kept by a vault and the plain branches."""

from editlots.errors import Refused
from editlots.forced import could, forced
from editlots.judge import why
from editlots.told import fallen
from editlots.vault import Vault

from branching import PlainBranches, Wrong
from reading import read, rule_table, state, told_rows

FIRST_WORDS = (
    "start", "commit", "merge", "pick", "out", "drop", "back", "again", "head", "record", "barred", "names", "log",
    "judge", "ask",
)


def row_form(names):
    """The form of a row, for a desk that gives the states of its fields these names."""
    word = yield FIRST_WORDS
    if word == "judge":
        return (word, *(yield from rule_table()))
    if word == "ask":
        return (word, *(yield from ask_form()))
    found = [word]
    if word not in ("back", "again", "names"):
        found.append((yield ("NAME",)))
    if word == "merge":
        found.append((yield ("NAME",)))
    if word in ("pick", "out"):
        found.append(int((yield ("FIGURES",))))
    if word == "commit":
        record = []
        for named in names:
            record.append((yield from state(named)))
        found.append(tuple(record))
    if word == "start":
        found.append((yield from lot_form()))
    else:
        yield ("END",)
    return tuple(found)


def lot_form():
    word = yield ("-", "FIGURES")
    if word == "-":
        yield ("END",)
        return ()
    lot = []
    while word != "":
        lot.append(int(word))
        word = yield ("FIGURES", "END")
    return tuple(lot)


def ask_form():
    names, told = yield from told_rows("|")
    three = []
    for _ in range(3):
        three.append((yield from state(names)))
    yield ("END",)
    return names, told, tuple(three)


def spaced(parts):
    return " ".join(str(part) for part in parts) or "-"


def steps_told(steps):
    return " / ".join(spaced(step) for step in steps)


class PlainDesk:
    """What a desk has to answer."""

    def __init__(self, fields, names, record):
        self.names = names
        self.branches = PlainBranches(Vault(fields, record))
        self.branches.start("main", ())

    def row(self, text):
        told = read(row_form(self.names), text)
        if told[0] is not True:
            return "refused: %s %s" % told
        word, *args = told[1]
        try:
            return self.do_deed(word, *args) if word in DEEDS else getattr(self, "do_" + word)(*args)
        except Wrong as wrong:
            return "refused: %s %s" % wrong.args
        except Refused as error:
            return "refused: %s %s" % (type(error).__name__, error.what)

    def do_deed(self, word, *args):
        told = getattr(self.branches, DEEDS[word])(*args)
        return "ok" if told is None else "ok %d" % told

    def do_head(self, name):
        return spaced(self.branches.head(name))

    def do_record(self, name):
        record = self.branches.vault.record(self.branches.head(name))
        return " ".join("gap" if told is None else names[told] for names, told in zip(self.names, record))

    def do_barred(self, name):
        return spaced(self.branches.vault.barred(self.branches.head(name)))

    def do_names(self):
        return spaced(self.branches.names())

    def do_log(self, name):
        return " | ".join("%d: %s" % (edit, steps_told(steps)) for edit, steps in self.branches.log(name)) or "-"

    def do_judge(self, names, table):
        n = range(len(names))
        gaps = [(o, a, b) for o in n for a in n for b in n if table[o][a][b] is None]
        if gaps:
            return "refused: Gaps " + spaced(names[told] for told in gaps[0])
        paper = why(table)
        if paper[0] == "clocks":
            return "clocks " + spaced(paper[1])
        rows = []
        for row in paper[1]:
            rows.append(" ".join(map(str, row)) if row[0] == "merge" else " ".join(map(str, row[:-1])) + " " + names[row[-1]])
        return "clash %s | %d %d" % ("; ".join(rows), *paper[2:])

    def do_ask(self, names, told, three):
        pair = fallen(told)
        if pair is not None:
            return "fallen " + spaced(names[told] for told in pair)
        found = forced(told, *three)
        if found is not None:
            return "forced " + names[found]
        return "could " + spaced(names[c] for c in could(told, *three))

    def text(self):
        vault = self.branches.vault
        parts = ["fields %d" % len(vault.fields())]
        for edit in range(vault.edits()):
            parts.append("%d on %s: %s" % (edit, spaced(vault.made_on(edit)), steps_told(vault.steps_of(edit))))
        return " | ".join(parts + ["%s %s" % (name, spaced(self.branches.head(name))) for name in self.branches.names()])


DEEDS = {
    "start": "start", "commit": "commit", "merge": "merge", "pick": "pick", "out": "take_out", "drop": "drop",
    "back": "back", "again": "again",
}
