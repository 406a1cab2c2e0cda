"""Pieces: runs of signs that may be too long to be written down, and the signs at a place of one."""

from grownwords.signs import all_signs

# Longer ones are told by the pieces that they are joined of; shorter ones would make many more pieces to go through.
LONGEST_WRITTEN = 256


class Piece:
    """Its signs are written down, or else its parts tell them: two or more pieces, none of them empty."""

    def __init__(self, length, signs, parts):
        self.length = length
        self.signs = signs
        self.parts = parts


def joined(pieces):
    """The piece of all these, one behind another."""
    # Without the empty ones, and with one alone as it is, no place is looked for among pieces that lead nowhere.
    parts = [piece for piece in pieces if piece.length > 0]
    if len(parts) == 1:
        return parts[0]
    length = sum([piece.length for piece in parts])
    if length > LONGEST_WRITTEN:
        return Piece(length, [], parts)
    signs = []
    for piece in parts:
        signs.extend(piece.signs)
    return Piece(length, signs, [])


def pieces_of_signs():
    """For each sign the piece of it alone."""
    pieces = {}
    for sign in all_signs():
        pieces[sign] = Piece(1, [sign], [])
    return pieces


def piece_along(word, pieces):
    return joined([pieces[sign] for sign in word])


def grown_pieces(pieces, rules):
    """For each sign the piece that it becomes if pieces are those that have grown one time less."""
    after = dict(pieces)
    for letter, word in rules.items():
        after[letter] = piece_along(word, pieces)
    return after


def signs_from(piece, first, most):
    """The piece's signs from the first-th on, most at the most."""
    found = []
    ahead = [piece]
    while len(ahead) > 0 and len(found) < most:
        nearest = ahead.pop()
        if first >= nearest.length:
            first -= nearest.length
        elif len(nearest.parts) > 0:
            ahead.extend(list(reversed(nearest.parts)))
        else:
            found.extend(nearest.signs[first:first + most - len(found)])
            first = 0
    return found
