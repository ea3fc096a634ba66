"""Tables as texts of all their entries."""

from editlots.headings import (
    check_as_many, check_state_names, heading_text, read_heading, read_state, states_text,
)
from editlots.tables import made_table
from editlots.words import Reader


def read_grid(text):
    """The names of states and the table that the text tells."""
    reader = Reader(text)
    names = read_heading(reader)
    table = read_parts(reader, names, ";", read_base)
    reader.end()
    return (names, table)


def print_grid(names, table):
    """The text of the table with these names of its states."""
    check_state_names(names)
    made_table(table)
    check_as_many(names, len(table))
    bases = [", ".join([states_text(names, row) for row in base]) for base in table]
    return heading_text(names) + " " + "; ".join(bases)


def read_base(reader, names):
    """The entries over one base, side by side."""
    return read_parts(reader, names, ",", read_row)


def read_row(reader, names):
    """The entries over one base with one side."""
    return tuple([read_entry(reader, names) for _ in names])


def read_entry(reader, names):
    """The state whose name stands next, or a gap."""
    if reader.word() == "gap":
        reader.take_word("gap")
        return None
    return read_state(reader, names)


def read_parts(reader, names, between, read_part):
    """As many parts as there are names, with this word between them."""
    found = [read_part(reader, names)]
    while len(found) < len(names):
        reader.take_word(between)
        found.append(read_part(reader, names))
    return tuple(found)
