"""Histories as texts."""

from editlots.headings import check_state_names, read_state
from editlots.histories import made_history
from editlots.words import Reader, spaced


def read_history(names, text):
    """The history that the text tells with these names of states."""
    check_state_names(names)
    reader = Reader(text)
    reader.take_word("first")
    rows = [("first", read_state(reader, names))]
    while reader.word() == ";":
        reader.take_word(";")
        rows.append(read_row(reader, names))
    reader.end()
    return made_history(len(names), tuple(rows))


def print_history(names, history):
    """The text of the history with these names of states."""
    check_state_names(names)
    made_history(len(names), history)
    return "; ".join([row_text(names, row) for row in history])


def read_row(reader, names):
    """A row behind the first one."""
    _, word = reader.take(row_word_fits)
    if word == "edit":
        of = reader.take_figures()
        return ("edit", of, read_state(reader, names))
    base = reader.take_figures()
    one = reader.take_figures()
    return ("merge", base, one, reader.take_figures())


def row_word_fits(word):
    """Whether a row behind the first one can begin so."""
    return word in ("edit", "merge")


def row_text(names, row):
    """The words of one row, with blanks between them."""
    if row[0] == "merge":
        return spaced(row)
    return spaced(row[:-1] + (names[row[-1]],))
