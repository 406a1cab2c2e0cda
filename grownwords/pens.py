"""What signs do to a pen: its steps and turns."""

from grownwords.signs import AROUND, GOING, LEFT, RIGHT, is_capital

STEPS_OF_4 = ((1, 0), (0, 1), (-1, 0), (0, -1))
STEPS_OF_6 = ((1, 0), (0, 1), (-1, 1), (-1, 0), (0, -1), (1, -1))


def steps_of(directions):
    """For each direction, what a step that way adds to x and to y."""
    return STEPS_OF_4 if directions == 4 else STEPS_OF_6


def is_step(sign):
    return is_capital(sign) or sign == GOING


def turn_of(sign, directions):
    """How many turns to the left the sign makes."""
    if sign == LEFT:
        return 1
    if sign == RIGHT:
        return directions - 1
    if sign == AROUND:
        return directions // 2
    return 0
