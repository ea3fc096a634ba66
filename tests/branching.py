"""A plain model of branches: heads as sets, and of the last 50 deeds all heads that there were."""

import re

NO_NAMES = (
    "", "A", "aB", "1", "1a", "a b", " a", "a ", "a\n", "\na", "a_", "_a", "a-b", "a.b",
    "a" * 13, "a" * 20000, "\u00e9", "a\u00e9",
    "a\u00b2", "\u00b2", "a\u0661", "\u03b1", "\u00aa", "a\u01c6", "\uff41", "a%", None, True, False, 0, 1, (), ("a",),
    (("a", 0),), 10 ** 999,
)
NAMES = ("a", "z", "main", "a1", "a0b", "gap", "turn", "any", "first", "abcdefghijkl", "x99999999999")


class Wrong(Exception):
    """What is refused: the name of the error's class, and its what."""


class PlainBranches:
    """What branches have to tell, kept plainly."""

    def __init__(self, vault):
        self.vault = vault
        self.now = {}
        self.past = []
        self.future = []

    def need(self, holds, error, what):
        if not holds:
            raise Wrong(error, what)

    def need_branch(self, name):
        self.need(type(name) is str and name in self.now, "NoBranch", name)

    def need_edit(self, edit):
        self.need(type(edit) is int and 0 <= edit < self.vault.edits(), "NoEdit", edit)

    def grant(self, heads):
        self.past = (self.past + [self.now])[-50:]
        self.now = heads
        self.future = []

    def names(self):
        return tuple(sorted(self.now))

    def head(self, name):
        self.need_branch(name)
        return tuple(sorted(self.now[name]))

    def start(self, name, lot):
        self.need(type(name) is str and re.fullmatch("[a-z][a-z0-9]{0,11}", name, re.ASCII), "BadName", name)
        rising = type(lot) is tuple and all(type(part) is int and 0 <= part <= 399 for part in lot)
        self.need(rising and list(lot) == sorted(set(lot)), "BadLot", -1)
        for edit in lot:
            self.need(edit < self.vault.edits(), "BadLot", edit)
        self.need(name not in self.now, "HasBranch", name)
        self.grant(self.now | {name: set(lot)})

    def commit(self, name, record):
        """The vault makes the edit; it is told what the head is."""
        self.need_branch(name)
        edit = self.vault.edit(self.head(name), record)
        self.grant(self.now | {name: self.now[name] | {edit}})
        return edit

    def merge(self, name, other):
        self.need_branch(name)
        self.need_branch(other)
        self.grant(self.now | {name: self.now[name] | self.now[other]})

    def pick(self, name, edit):
        self.need_branch(name)
        self.need_edit(edit)
        self.need(edit not in self.now[name], "HasEdit", edit)
        self.grant(self.now | {name: self.now[name] | {edit}})

    def take_out(self, name, edit):
        self.need_branch(name)
        self.need_edit(edit)
        self.need(edit in self.now[name], "LacksEdit", edit)
        self.grant(self.now | {name: self.now[name] - {edit}})

    def drop(self, name):
        self.need_branch(name)
        self.grant({other: head for other, head in self.now.items() if other != name})

    def log(self, name):
        return tuple((edit, self.vault.steps_of(edit)) for edit in self.head(name))

    def back(self):
        self.need(self.past, "NothingBack", 0)
        self.future.append(self.now)
        self.now = self.past.pop()

    def again(self):
        self.need(self.future, "NothingAgain", 0)
        self.past.append(self.now)
        self.now = self.future.pop()


def drawn_deed(source, names, edits, record):
    """The name of any deed, and arguments for it, some of them wrong."""
    name, other = source.choice(names), source.choice(names)
    edit = source.randrange(edits + 1)
    lot = tuple(sorted(source.sample(range(edits + 1), source.randrange(min(edits + 1, 4) + 1))))
    return source.choice((
        ("start", name, lot), ("commit", name, record), ("merge", name, other), ("pick", name, edit),
        ("take_out", name, edit), ("drop", name), ("back",), ("back",), ("again",), ("again",),
    ))
