"""Texts, the words into which they fall, and how these are read from the left."""

from editlots.errors import BadText
from editlots.naming import is_name

MOST_SIGNS = 20000
# The sign of this code is barred from texts, though it lies between the others.
BARRED_CODE = 37
MOST_FIGURES = 6
TELLING = ("gap", "turn", "any")


class Reader:
    """The words of a text, gone through from the left."""

    def __init__(self, text):
        check_text(text)
        self._words = words_of(text) + [(len(text), "")]
        self._at = 0

    def word(self):
        """The word that stands next, an empty one where the text ends."""
        return self._words[self._at][1]

    def take(self, fits):
        """Go past the next word and return its place and it; refused unless it fits."""
        place, word = self._words[self._at]
        if not fits(word):
            raise BadText(place)
        self._at += 1
        return (place, word)

    def take_word(self, wanted):
        """Go past the next word, which must be this one."""
        self.take(lambda word: word == wanted)

    def take_name(self):
        """Go past a name, and return its place and it."""
        return self.take(name_fits)

    def take_figures(self):
        """Go past a figure word, and return its number."""
        return int(self.take(figures_fit)[1])

    def end(self):
        """Refuse any word behind the end of what was read."""
        place, word = self._words[self._at]
        if word != "":
            raise BadText(place)


def check_text(text):
    """Refuse what is no text, or one that is too long or has a wrong sign."""
    if not isinstance(text, str):
        raise BadText(-1)
    held = text[:MOST_SIGNS]
    wrong = [held.find(sign) for sign in sorted(set(held)) if not sign_fits(sign)]
    if wrong:
        raise BadText(min(wrong))
    if len(text) > MOST_SIGNS:
        raise BadText(MOST_SIGNS)


def sign_fits(sign):
    """Whether a sign may stand in a text."""
    code = ord(sign)
    return 32 <= code <= 126 and code != BARRED_CODE


def words_of(text):
    """The words of a text with their places."""
    found = []
    at = 0
    while at < len(text):
        word = word_at(text, at)
        if word != " ":
            found.append((at, word))
        at += len(word)
    return found


def word_at(text, at):
    """The word, or the blank, that begins at this index."""
    if text[at:at + 2] == "->":
        return "->"
    end = at
    while end < len(text) and text[end].isalnum():
        end += 1
    return text[at:max(end, at + 1)]


def name_fits(thing):
    """Whether it is a name that can stand in texts."""
    return is_name(thing) and thing not in TELLING


def letter_fits(word):
    """Whether it is a letter word."""
    return len(word) == 1 and word.isupper()


def figures_fit(word):
    """Whether it is a figure word."""
    return figures_up_to(word, MOST_FIGURES)


def figures_up_to(word, most):
    """Whether it is a figure word of at most so many figures."""
    return word.isdigit() and len(word) <= most and (word == "0" or word[0] != "0")


def spaced(parts):
    """Numbers and texts with blanks between them."""
    return " ".join([str(part) for part in parts])


def spaced_or_stroke(parts):
    """Numbers and texts with blanks between them, a stroke where there are none."""
    return spaced(parts) if parts else "-"
