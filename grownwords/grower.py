"""The object that grows words. Each of its calls answers a list of whole numbers."""

from grownwords.growth import LAST_WORD, signs_in, tallies_of
from grownwords.texts import first_word_of, first_wrong_line, lines_of, rules_of

NO_RULES = -9
OUT_OF_RANGE = -8
TOO_LONG = -6
WRONG_LINE = -100


class Grower:

    def __init__(self):
        # None stands for no rules: a text without a rule still has words.
        self.tallies = None

    def begin(self):
        self.tallies = None
        return [0]

    def read(self, text):
        self.tallies = None
        lines = lines_of(text)
        wrong = first_wrong_line(lines)
        if wrong > 0:
            return [WRONG_LINE - wrong]
        rules = rules_of(lines)
        self.tallies = tallies_of(first_word_of(lines), rules)
        return [len(rules)]

    def long(self, n):
        refusal = self.refusal_of(n)
        if refusal < 0:
            return [refusal]
        return [signs_in(self.tallies[n])]

    def often(self, n, sign):
        refusal = self.refusal_of(n)
        if refusal < 0:
            return [refusal]
        return [self.tallies[n].get(sign, 0)]

    def refusal_of(self, n):
        """Why the n-th word is not told of; 0 if it is."""
        if self.tallies is None:
            return NO_RULES
        if n < 0 or n > LAST_WORD:
            return OUT_OF_RANGE
        # The tallies end ahead of the first too long word, however short a later one would be.
        if n >= len(self.tallies):
            return TOO_LONG
        return 0
