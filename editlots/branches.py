"""Branches: names for lots of a vault, and the deeds that move them, which can be undone."""

from editlots.errors import HasBranch, HasEdit, LacksEdit, NothingAgain, NothingBack
from editlots.lotwork import joined, lacking, made_lot
from editlots.naming import check_name, head_of

MOST_DEEDS = 50


class Branches:
    """The branches of a vault, none at the beginning."""

    def __init__(self, vault):
        self._vault = vault
        self._heads = {}
        # Each deed is told as the branch, its head ahead of the deed and behind it, None for no branch.
        self._done = []
        self._undone = []

    def names(self):
        """The names of all branches, rising."""
        return tuple(sorted(self._heads))

    def head(self, name):
        """The lot of the branch."""
        return head_of(self._heads, name)

    def start(self, name, lot):
        """Make a new branch with this head."""
        check_name(name)
        made_lot(self._vault.edits(), lot)
        if name in self._heads:
            raise HasBranch(name)
        self._do(name, lot)

    def commit(self, name, record):
        """Make an edit of the head that leads to this record, add it to the head, and return its number."""
        head = self.head(name)
        edit = self._vault.edit(head, record)
        self._do(name, joined(head, (edit,)))
        return edit

    def merge(self, name, other):
        """Join the head of the other branch to that of the first."""
        head = self.head(name)
        self._do(name, joined(head, self.head(other)))

    def pick(self, name, edit):
        """Add an edit of the vault to the head."""
        head = self._head_and_edit(name, edit)
        if edit in head:
            raise HasEdit(edit)
        self._do(name, joined(head, (edit,)))

    def take_out(self, name, edit):
        """Take an edit out of the head; those made upon it stay."""
        head = self._head_and_edit(name, edit)
        if edit not in head:
            raise LacksEdit(edit)
        self._do(name, lacking(head, (edit,)))

    def drop(self, name):
        """Forget the branch; its edits stay in the vault."""
        self.head(name)
        self._do(name, None)

    def log(self, name):
        """The edits of the head with their steps."""
        return tuple([(edit, self._vault.steps_of(edit)) for edit in self.head(name)])

    def back(self):
        """Undo the last deed that is not undone."""
        if not self._done:
            raise NothingBack(0)
        deed = self._done.pop()
        self._undone.append(deed)
        name, ahead, _ = deed
        self._set(name, ahead)

    def again(self):
        """Do the deed again that was undone last."""
        if not self._undone:
            raise NothingAgain(0)
        deed = self._undone.pop()
        self._done.append(deed)
        name, _, behind = deed
        self._set(name, behind)

    def _head_and_edit(self, name, edit):
        """The head of the branch; refused if there is none, or no such edit in the vault."""
        head = self.head(name)
        self._vault.steps_of(edit)
        return head

    def _do(self, name, lot):
        """Give the branch this head as a deed that can be undone."""
        self._done.append((name, self._heads.get(name), lot))
        if len(self._done) > MOST_DEEDS:
            del self._done[0]
        self._undone = []
        self._set(name, lot)

    def _set(self, name, lot):
        """Give the branch this head, or take the branch away if it is None."""
        if lot is None:
            del self._heads[name]
        else:
            self._heads[name] = lot
