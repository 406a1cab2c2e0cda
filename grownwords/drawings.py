"""Drawings: the points that a pen draws, led by a word that is written down."""

from grownwords.pens import is_step, steps_of, turn_of
from grownwords.signs import CLOSING, OPENING, is_capital


def drawn_points(signs, directions):
    """A dict of the points at which a step that was drawn began or ended."""
    steps = steps_of(directions)
    x = 0
    y = 0
    direction = 0
    kept = []
    drawn = {}
    for sign in signs:
        if sign == OPENING:
            kept.append((x, y, direction))
        elif sign == CLOSING:
            taken = kept.pop()
            x = taken[0]
            y = taken[1]
            direction = taken[2]
        elif is_step(sign):
            draws = is_capital(sign)
            if draws:
                drawn[(x, y)] = True
            x += steps[direction][0]
            y += steps[direction][1]
            if draws:
                drawn[(x, y)] = True
        else:
            direction = (direction + turn_of(sign, directions)) % directions
    return drawn


def picture_of(points, x, y, width, height):
    """Row by row 1 for each of the points, 0 for all else."""
    row = [0] * (width * height)
    for point in points:
        across = point[0] - x
        along = point[1] - y
        if 0 <= across < width and 0 <= along < height:
            row[along * width + across] = 1
    return row
