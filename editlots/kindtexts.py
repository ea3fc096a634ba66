"""Kinds as texts."""

from editlots.headings import check_as_many, check_state_names, heading_text, read_heading
from editlots.kinds import made_kind
from editlots.words import figures_up_to, Reader, spaced

LONGEST_FIGURES = 30


def read_kind(text):
    """The names of states and the kind that the text tells."""
    reader = Reader(text)
    names = read_heading(reader)
    reader.take_word("sizes")
    sizes = []
    while reader.word() != ":":
        sizes.append(take_number(reader))
    reader.take_word(":")
    hands = []
    for _ in names:
        if hands:
            reader.take_word(",")
        hands.append(tuple([take_number(reader) for _ in sizes]))
    reader.end()
    return (names, made_kind((tuple(sizes), tuple(hands))))


def print_kind(names, kind):
    """The text of the kind with these names of its states."""
    check_state_names(names)
    made_kind(kind)
    sizes, hands = kind
    check_as_many(names, len(hands))
    front = heading_text(names) + " " + spaced(("sizes",) + sizes) + ":"
    if not sizes:
        # Then there is but one state, and its hands are nothing.
        return front
    return front + " " + ", ".join([spaced(hand) for hand in hands])


def take_number(reader):
    """The number that stands next, which may be a long one here."""
    return int(reader.take(long_figures_fit)[1])


def long_figures_fit(word):
    """Whether it is a figure word of kinds' texts."""
    return figures_up_to(word, LONGEST_FIGURES)
