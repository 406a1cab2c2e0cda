"""The words that grow by one text's rules."""

from grownwords.growth import signs_in, tallies_of
from grownwords.pieces import grown_pieces, piece_along, pieces_of_signs
from grownwords.ways import grown_ways, way_along, ways_of_signs


class Words:

    def __init__(self, directions, first_word, rules):
        self.directions = directions
        self.first_word = first_word
        self.rules = rules
        self.tallies = tallies_of(first_word, rules)
        # At the place k stands what tells of each sign when it has grown k times; made as far as it is asked for.
        self.pieces = [pieces_of_signs()]
        self.ways = [ways_of_signs(directions)]

    def is_told(self, n):
        # The tallies end ahead of the first too long word, however short a later one would be.
        return n < len(self.tallies)

    def signs_of(self, n):
        return signs_in(self.tallies[n])

    def times(self, n, sign):
        return self.tallies[n].get(sign, 0)

    def piece_of(self, n):
        while len(self.pieces) <= n:
            self.pieces.append(grown_pieces(self.pieces[-1], self.rules))
        return piece_along(self.first_word, self.pieces[n])

    def way_of(self, n):
        while len(self.ways) <= n:
            self.ways.append(grown_ways(self.ways[-1], self.rules, self.directions))
        return way_along(self.first_word, self.ways[n], self.directions)
