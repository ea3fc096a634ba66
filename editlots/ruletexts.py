"""Rules that tell tables, and told rows, as texts."""

from editlots.errors import NoVariable, TooMany
from editlots.headings import (
    check_as_many, check_state_names, heading_text, read_heading, read_state, state_named, states_text,
)
from editlots.tables import filled
from editlots.told import made_told, MOST_TOLD
from editlots.words import letter_fits, name_fits, Reader

MOST_RULES = 40


def read_rules(text):
    """The names of states, and the table that the rules tell."""
    return rules_by(Reader(text))


def read_told(text):
    """The names of states, and the told rows."""
    reader = Reader(text)
    found = told_by(reader, "")
    reader.end()
    return found


def print_told(names, told):
    """The text of the told rows with these names of states."""
    check_state_names(names)
    made_told(told)
    n, rows = told
    check_as_many(names, n)
    if not rows:
        return heading_text(names)
    return heading_text(names) + " " + "; ".join([told_row_text(names, row) for row in rows])


def rules_by(reader):
    """The names of states, and the table of the rules that stand from here to the end of the text."""
    names = read_heading(reader)
    rules = read_rows(reader, names, read_rule)
    reader.end()
    return (names, table_of_rules(len(names), rules))


def told_by(reader, last):
    """The names of states, and the told rows that stand from here to the word that is named last."""
    names = read_heading(reader)
    rows = [] if reader.word() == last else read_rows(reader, names, read_told_row)
    return (names, (len(names), tuple(rows)))


def read_rows(reader, names, read_row):
    """One or more rows with a semicolon between them; each is told how many stand ahead."""
    found = [read_row(reader, names, 0)]
    while reader.word() == ";":
        reader.take_word(";")
        found.append(read_row(reader, names, len(found)))
    return found


def read_told_row(reader, names, ahead):
    """The states of one told row."""
    place, name = reader.take_name()
    if ahead == MOST_TOLD:
        raise TooMany(place)
    o = state_named(names, place, name)
    a = read_state(reader, names)
    b = read_state(reader, names)
    reader.take_word("->")
    return (o, a, b, read_state(reader, names))


def told_row_text(names, row):
    """The text of one told row."""
    return states_text(names, row[:3]) + " -> " + names[row[3]]


def read_rule(reader, names, ahead):
    """The three items and the result of one rule, states by their numbers, other words as they are."""
    place, word = reader.take(item_fits)
    if ahead == MOST_RULES:
        raise TooMany(place)
    items = [meant(names, place, word)]
    while len(items) < 3:
        place, word = reader.take(item_fits)
        items.append(meant(names, place, word))
    reader.take_word("->")
    place, word = reader.take(result_fits)
    if letter_fits(word) and word not in items:
        raise NoVariable(place)
    return (items, meant(names, place, word))


def item_fits(word):
    """Whether it can stand as an item of a rule."""
    return word == "any" or letter_fits(word) or name_fits(word)


def result_fits(word):
    """Whether it can stand as the result of a rule."""
    return word in ("gap", "turn") or letter_fits(word) or name_fits(word)


def meant(names, place, word):
    """The state that the word at this place names; another word is left as it is."""
    return state_named(names, place, word) if name_fits(word) else word


def table_of_rules(n, rules):
    """The table of n states whose entries the first fitting rules tell, with gaps where none fits."""
    told = {}
    for items, result in rules:
        # No rule behind tells anything of a full table.
        if len(told) < n * n * n:
            for three in fitting(n, items):
                if three not in told:
                    told[three] = entry_told(n, items, result, three)
    return filled(n, lambda o, a, b: told.get((o, a, b)))


def fitting(n, items):
    """All three states that the items fit."""
    found = [()]
    for _ in items:
        found = [ahead + (state,) for ahead in found for state in choices(n, items, ahead)]
    return found


def choices(n, items, ahead):
    """The states that fit the item behind these states, which fit those ahead of it."""
    item = items[len(ahead)]
    if item == "any":
        return list(range(n))
    if not isinstance(item, str):
        return [item]
    first = items.index(item)
    return list(range(n)) if first == len(ahead) else [ahead[first]]


def entry_told(n, items, result, three):
    """What the result of a rule is for three states that its items fit."""
    if result == "gap":
        return None
    if result == "turn":
        o, a, b = three
        return (a - o + b) % n
    return three[items.index(result)] if isinstance(result, str) else result
