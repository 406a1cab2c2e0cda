"""The object that grows words. Each of its calls answers a list of whole numbers."""

from grownwords.drawings import drawn_points, picture_of
from grownwords.growth import LAST_WORD
from grownwords.pieces import signs_from
from grownwords.texts import directions_of, first_word_of, first_wrong_line, lines_of, rules_of
from grownwords.ways import told_of
from grownwords.words import Words

NO_RULES = -9
OUT_OF_RANGE = -8
TOO_LONG = -6
WRONG_LINE = -100
WIDEST = 1024
# 2 to the power of 24: of a word of so many signs there is no picture.
TOO_MANY_TO_DRAW = 16777216


class Grower:

    def __init__(self):
        # None stands for no rules: a text without a rule still has words.
        self.words = None

    def begin(self):
        self.words = None
        return [0]

    def read(self, text):
        self.words = None
        lines = lines_of(text)
        wrong = first_wrong_line(lines)
        if wrong > 0:
            return [WRONG_LINE - wrong]
        rules = rules_of(lines)
        self.words = Words(directions_of(lines), first_word_of(lines), rules)
        return [len(rules)]

    def long(self, n):
        refusal = self.refusal_of(n)
        if refusal < 0:
            return [refusal]
        return [self.words.signs_of(n)]

    def often(self, n, sign):
        refusal = self.refusal_of(n)
        if refusal < 0:
            return [refusal]
        return [self.words.times(n, sign)]

    def part(self, n, first, most):
        if first < 0 or most < 0:
            return [OUT_OF_RANGE]
        refusal = self.refusal_of(n)
        if refusal < 0:
            return [refusal]
        signs = signs_from(self.words.piece_of(n), first, most)
        return [len(signs)] + signs

    def walk(self, n):
        refusal = self.refusal_of(n)
        if refusal < 0:
            return [refusal]
        return [0] + told_of(self.words.way_of(n))

    def picture(self, n, x, y, width, height):
        if not 1 <= width <= WIDEST or not 1 <= height <= WIDEST:
            return [OUT_OF_RANGE]
        refusal = self.refusal_of(n)
        if refusal < 0:
            return [refusal]
        many = self.words.signs_of(n)
        if many >= TOO_MANY_TO_DRAW:
            return [TOO_LONG]
        signs = signs_from(self.words.piece_of(n), 0, many)
        points = drawn_points(signs, self.words.directions)
        return [0] + picture_of(points, x, y, width, height)

    def refusal_of(self, n):
        """Why the n-th word is not told of; 0 if it is."""
        if self.words is None:
            return NO_RULES
        if n < 0 or n > LAST_WORD:
            return OUT_OF_RANGE
        if not self.words.is_told(n):
            return TOO_LONG
        return 0
