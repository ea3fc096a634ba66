"""How judges are tried: beside the tests' own reckoning, on right papers, on bent ones, and on values of all kinds."""

import itertools

from bends import bent_calls
from helpers import Case, nested, ODD

DEEP = tuple(nested(40) for _ in range(480))
LONG = ((None, "a" * 50, 1, True, -(10 ** 900)),) * 3300
WILD = ODD + (DEEP, LONG, ("yes", ()), ("no", 0, 1, ()), ("clocks", (), ()), (2, ()), ((2,), ((0,), (1,))))


class JudgeCase(Case):

    def says(self, judge, holds, args):
        """The judge says what it has to say, and nothing but True or False."""
        said = judge(*args)
        self.assertIs(type(said), bool)
        self.assertIs(said, holds(*args), args)
        return said

    def lets(self, judge, holds, args):
        """The judge lets these arguments."""
        self.assertIs(judge(*args), True, args)
        self.assertIs(holds(*args), True, args)

    def judges_bends(self, judge, holds, args):
        """The judge lets the arguments, and judges all that are bent in one place; how many it still lets."""
        self.lets(judge, holds, args)
        return sum([self.says(judge, holds, bent) for bent in bent_calls(args)])

    def judges_anything(self, judge, holds, args):
        """The judge says of values of all kinds, in each place and in all, what it has to say."""
        self.lets(judge, holds, args)
        for k in range(len(args)):
            for thing in WILD:
                self.says(judge, holds, args[:k] + (thing,) + args[k + 1:])
        for j, k in itertools.combinations(range(len(args)), 2):
            for one, two in itertools.product((None, True, 0, 1, (), ((),), (0,), (True,), "a"), repeat=2):
                self.says(judge, holds, args[:j] + (one,) + args[j + 1:k] + (two,) + args[k + 1:])
        for thing in WILD:
            self.says(judge, holds, (thing,) * len(args))
