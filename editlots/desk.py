"""The desk, which keeps a vault and its branches by words."""

from editlots.branches import Branches
from editlots.deskrows import answer, refusal, steps_text
from editlots.errors import BadNames, Refused
from editlots.headings import wrong_name
from editlots.records import made_fields
from editlots.shapes import tuple_between
from editlots.vault import Vault
from editlots.words import spaced_or_stroke


class Desk:
    """A vault and its branches, the branch main at first, and the names of the states of each field."""

    def __init__(self, fields, names, record):
        made_fields(fields)
        check_field_names(fields, names)
        self.vault = Vault(fields, record)
        self.branches = Branches(self.vault)
        self.names = names
        self.branches.start("main", ())

    def row(self, text):
        """Do or ask what one row tells, and return the answer."""
        try:
            return answer(self, text)
        except Refused as e:
            return refusal(e.called, e.what)

    def text(self):
        """All edits of the vault and all branches as one text."""
        parts = [f"fields {len(self.vault.fields())}"]
        for edit in range(self.vault.edits()):
            lot = spaced_or_stroke(self.vault.made_on(edit))
            parts.append(f"{edit} on {lot}: {steps_text(self.vault.steps_of(edit))}")
        for name in self.branches.names():
            parts.append(f"{name} {spaced_or_stroke(self.branches.head(name))}")
        return " | ".join(parts)


def check_field_names(fields, names):
    """Refuse what does not name the states of each field."""
    if not tuple_between(names, len(fields), len(fields)):
        raise BadNames(-1)
    for field, (_, hands) in enumerate(fields):
        if not tuple_between(names[field], len(hands), len(hands)) or wrong_name(names[field]) is not None:
            raise BadNames(field)
