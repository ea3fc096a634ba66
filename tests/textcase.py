"""How texts are tried: beside the second reader, bent in one place, and there and back."""

from editlots.errors import BadNames, BadText

from branching import NO_NAMES
from helpers import Case, ODD, outcome
from reading import bent_texts, read, respaced, words_with_places

LONG_NAMES = tuple("state1234567"[:11] + letter for letter in "abcdefghijkl")
LETTERS = tuple("abcdefghijkl")
NAME_SETS = (
    LETTERS, LONG_NAMES, ("off", "on", "half") + LETTERS[:9],
    ("first", "edit", "merge", "sizes", "start", "g", "gaps", "turns", "any1", "x0", "a", "z99999999999"),
)
# No texts at all, with the index that BadText tells.
NO_TEXTS = (
    (None, -1), (True, -1), (0, -1), (7, -1), ((), -1), (("a:",), -1), ("\n", 0), ("a:\t", 2), ("a%: b", 1), ("\u00e9", 0),
    ("a\u00b2:", 1), ("a\x7f", 1), ("a\x1f", 1), ("a: \ud800", 3), ("%" * 30000, 0), (" " * 20000, 20000),
    (" " * 20001, 20000),
    (" " * 19999 + "%", 19999), (" " * 20000 + "%", 20000), (" " * 5 + "\n" + " " * 20000, 5), (" " * 30000 + "\n", 20000),
    ("abc: -> ~ ; " * 3000, 20000),
)


class TextCase(Case):

    def refuses_no_texts(self, call, right):
        """A call with a text as its only argument refuses what is no text, as it is told ahead of all reading.

        A right text of 20000 signs is read, of 20001 not.
        """
        self.assertEqual(call(right.ljust(20000)), call(right))
        self.assertEqual(call(" " * (20000 - len(right)) + right), call(right))
        self.refuses(BadText, 20000, call, right.ljust(20001))
        for text, what in NO_TEXTS:
            if text != " " * 20000:
                self.refuses(BadText, what, call, text)
            else:
                # A text of just 20000 signs is one; but there are no words in it.
                self.refuses(BadText, 20000, call, text)
        for thing in ODD:
            if type(thing) is not str:
                self.refuses(BadText, -1, call, thing)

    def refuses_state_names(self, call):
        """A call with names of states as its only argument refuses what are none."""
        for thing in (None, True, 0, "", "a", (), LETTERS + ("m",), (None,) * 13):
            self.refuses(BadNames, -1, call, thing)
        for at in (0, 1, 5, 11):
            ahead = LETTERS[:at]
            for wrong in NO_NAMES + ("gap", "turn", "any") + ahead[:1] + ahead[-1:]:
                self.refuses(BadNames, at, call, ahead + (wrong,) + LETTERS[at + 1:])
                self.refuses(BadNames, at, call, ahead + (wrong,) + (None,) * (11 - at))

    def reads(self, call, form, text):
        """The call reads of the text what the second reader reads, or refuses it so; which of both."""
        told = outcome(call, text)
        self.assertEqual(told, read(form(), text), text[:300])
        return told[0]

    def reads_bent(self, source, call, form, text, most):
        """Of texts bent in one place both readers tell the same; all errors that were told."""
        self.assertIs(self.reads(call, form, text), True)
        return {self.reads(call, form, bent) for bent in bent_texts(source, text, most)}

    def reads_respaced(self, source, call, text):
        """However the words of a text stand apart, the same is read."""
        words = [word for _, word in words_with_places(text)][:-1]
        for _ in range(10):
            self.assertEqual(call(respaced(source, words)), call(text))
