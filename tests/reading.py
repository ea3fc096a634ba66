"""A second reader of texts: each form is a generator that tells what can stand next and is sent each word."""

import re

KINDS = {
    "NAME": re.compile("(?!(gap|turn|any)$)[a-z][a-z0-9]{0,11}"), "LETTER": re.compile("[A-Z]"),
    "FIGURES": re.compile("0|[1-9][0-9]{0,5}"), "LONG": re.compile("0|[1-9][0-9]{0,29}"), "END": re.compile("$"),
}
LETTER, NAME = KINDS["LETTER"], KINDS["NAME"]


class Refusal(Exception):
    """What is told of the word that was sent."""


def can_stand(word, wanted):
    """Whether the word is of one of these kinds, or one of these words."""
    return any(KINDS[kind].fullmatch(word) if kind in KINDS else kind == word for kind in wanted)


def wrong_sign(text):
    """What BadText tells of it ahead of all reading, None for a text."""
    if type(text) is not str:
        return -1
    wrong = [at for at, sign in enumerate(text) if at >= 20000 or not " " <= sign <= "~" or sign == "%"]
    return wrong[0] if wrong else None


def words_with_places(text):
    """The words of the text, and an empty one at its end, with their places."""
    return [(found.start(), found.group()) for found in re.finditer("[A-Za-z0-9]+|->|[^ ]|$", text)]


def read(form, text):
    """(True, what the text tells) or (error, what), by a form that is handed in."""
    wrong = wrong_sign(text)
    if wrong is not None:
        return ("BadText", wrong)
    wanted = next(form)
    for place, word in words_with_places(text):
        if not can_stand(word, wanted):
            return ("BadText", place)
        try:
            wanted = form.send(word)
        except StopIteration as done:
            return (True, done.value)
        except Refusal as refusal:
            return (refusal.args[0], place)
    raise AssertionError("the form does not end")


def need(holds, error):
    if not holds:
        raise Refusal(error)


def heading():
    names = []
    while True:
        name = yield ("NAME", ":") if names else ("NAME",)
        if name == ":":
            return tuple(names)
        need(len(names) < 12, "TooMany")
        need(name not in names, "Twice")
        names.append(name)


def state(names):
    name = yield ("NAME",)
    need(name in names, "NoName")
    return names.index(name)


def grid():
    names = yield from heading()
    n = len(names)
    entries = []
    while True:
        word = yield ("NAME", "gap")
        need(word == "gap" or word in names, "NoName")
        entries.append(None if word == "gap" else names.index(word))
        if len(entries) == n ** 3:
            yield ("END",)
            break
        if len(entries) % n ** 2 == 0:
            yield (";",)
        elif len(entries) % n == 0:
            yield (",",)
    return names, tuple(
        tuple(tuple(entries[(o * n + a) * n + b] for b in range(n)) for a in range(n)) for o in range(n)
    )


def rules():
    """The names, and the rules as their words."""
    names = yield from heading()
    found = []
    while True:
        rule = []
        for at in range(3):
            word = yield ("NAME", "LETTER", "any")
            need(at > 0 or len(found) < 40, "TooMany")
            need(word in names or not NAME.fullmatch(word), "NoName")
            rule.append(word)
        yield ("->",)
        word = yield ("NAME", "LETTER", "gap", "turn")
        need(word in names or not NAME.fullmatch(word), "NoName")
        need(word in rule or not LETTER.fullmatch(word), "NoVariable")
        found.append((rule, word))
        if (yield (";", "END")) == "":
            return names, found


def fits(names, rule, three):
    """Whether the rule fits the three states, by all its items and all pairs of them."""
    for item, told in zip(rule, three):
        if NAME.fullmatch(item) and names.index(item) != told:
            return False
    pairs = [(x, y) for x in range(3) for y in range(3) if LETTER.fullmatch(rule[x]) and rule[x] == rule[y]]
    return all(three[x] == three[y] for x, y in pairs)


def rule_entry(names, told, three):
    """The entry of the three states by the first rule that fits."""
    for rule, result in told:
        if fits(names, rule, three):
            if result == "gap":
                return None
            if result == "turn":
                return (three[1] - three[0] + three[2]) % len(names)
            if result in names:
                return names.index(result)
            return three[rule.index(result)]
    return None


def rule_table():
    """The names, and the table reckoned over all three states."""
    names, found = yield from rules()
    n = range(len(names))
    return names, tuple(tuple(tuple(rule_entry(names, found, (o, a, b)) for b in n) for a in n) for o in n)


def told_rows(end="END"):
    names = yield from heading()
    rows = []
    word = yield ("NAME", end)
    while NAME.fullmatch(word):
        need(len(rows) < 2000, "TooMany")
        need(word in names, "NoName")
        row = [names.index(word)]
        for _ in range(2):
            row.append((yield from state(names)))
        yield ("->",)
        row.append((yield from state(names)))
        rows.append(tuple(row))
        word = yield (";", end)
        if word == ";":
            word = yield ("NAME",)
    return names, (len(names), tuple(rows))


def history(names):
    yield ("first",)
    rows = [("first", (yield from state(names)))]
    while (yield (";", "END")) == ";":
        if (yield ("edit", "merge")) == "edit":
            of = yield ("FIGURES",)
            rows.append(("edit", int(of), (yield from state(names))))
        else:
            row = ["merge"]
            for _ in range(3):
                row.append(int((yield ("FIGURES",))))
            rows.append(tuple(row))
    return tuple(rows)


def kind():
    names = yield from heading()
    yield ("sizes",)
    sizes = []
    while (word := (yield ("LONG", ":"))) != ":":
        sizes.append(int(word))
    hands = []
    for at in range(len(names)):
        if at:
            yield (",",)
        hand = []
        for _ in sizes:
            hand.append(int((yield ("LONG",))))
        hands.append(tuple(hand))
    yield ("END",)
    return names, (tuple(sizes), tuple(hands))


PUT = (
    "a", "b", "on", "gap", "turn", "any", "first", "edit", "merge", "sizes", "X", "Y", "0", "1", "7", "12", "00", "01",
    "1234567", "9a", "aB", "XY", "->", "-", ">", ":", ";", ",", "|", "/", "_", "abcdefghijklm",
)


def bent_texts(source, text, most):
    """Texts that are this one, bent in one place, at most so many of each sort."""
    words = [word for _, word in words_with_places(text)][:-1]
    cuts = [(k, j, ()) for k in range(len(words)) for j in (k, k + 1)]
    swaps = [(k, k + 2, (words[k + 1], words[k])) for k in range(len(words) - 1)]
    twice = [(k, k, (word,)) for k, word in enumerate(words)]
    puts = [(k, j, (put,)) for k in range(len(words) + 1) for j in (k, k + 1) for put in PUT]
    found = []
    for k, j, put in chosen(source, cuts + swaps + twice, most) + chosen(source, puts, 2 * most):
        found.append(respaced(source, words[:k] + list(put) + words[j:]))
    found += [text[:k] for k in chosen(source, range(len(text) + 1), most)]
    found += [text[:k] + text[k + 1:] for k in chosen(source, range(len(text)), most)]
    signs = ("%", "\n", "\t", "\x7f", "\x1f", "\u00e9", "\u00b2", "\u0661", "~", "?", "(", ".")
    places = [(k, sign) for k in range(len(text) + 1) for sign in signs]
    return found + [text[:k] + sign + text[k:] for k, sign in chosen(source, places, most)]


def chosen(source, things, most):
    """At most so many of these."""
    return list(things) if len(things) <= most else source.sample(things, most)


def respaced(source, words):
    """The words with any blanks around them; one at least where two would else be one."""
    text = " " * source.choice((0, 0, 1))
    for k, word in enumerate(words):
        apart = k > 0 and (
            words[k - 1][-1].isalnum() and word[0].isalnum() or words[k - 1] == "-" and word[0] == ">"
        )
        text += " " * (source.choice((1, 1, 2)) if apart else source.choice((0, 1, 3))) + word
    return text + " " * source.choice((0, 0, 2))
