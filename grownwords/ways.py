"""Ways: what a word does to a pen, however long the word is.

A way tells of x alone, but for each direction that the pen may begin in: begun one turn further to the left, the same
way has as its x what had been its y, below 0 for above; begun half way round, x is below 0 for above too. So the x of
all beginnings tell the y as well, and the greatest x of all beginnings tell the least x, the least y and the greatest
y. That holds of 4 directions and of 6.
"""

from grownwords.pens import is_step, steps_of, turn_of
from grownwords.signs import CLOSING, OPENING, all_signs


class Way:
    """For each beginning: ends has the x at which the pen ends, reach the greatest x of all points it came to."""

    def __init__(self, turn, ends, reach):
        self.turn = turn
        self.ends = ends
        self.reach = reach
        # Many signs only turn: to go through the rows for these too would take most of the time.
        self.moves = max(reach) > 0


def way_of_sign(sign, directions):
    ends = [0] * directions
    if is_step(sign):
        ends = [step[0] for step in steps_of(directions)]
    return Way(turn_of(sign, directions), ends, [max(end, 0) for end in ends])


def ways_of_signs(directions):
    """For each sign the way of it alone."""
    ways = {}
    for sign in all_signs():
        ways[sign] = way_of_sign(sign, directions)
    return ways


def turned(row, turn):
    """What a row with a number for each beginning is to a pen that has made this turn before."""
    return row[turn:] + row[:turn]


def added(ends, more):
    return [end + step for end, step in zip(ends, more)]


def farthest(reach, ends, more):
    """The reach, where from the ends on the pen comes as far as more tells."""
    # Not by max: a call for each number would take much longer.
    return [far if far > end + step else end + step for far, end, step in zip(reach, ends, more)]


def way_along(word, ways, directions):
    """The way of a word, where ways tells what each of its signs does."""
    turn = 0
    ends = [0] * directions
    reach = [0] * directions
    kept = []
    for sign in word:
        if sign == OPENING:
            kept.append((turn, ends))
        elif sign == CLOSING:
            taken = kept.pop()
            turn = taken[0]
            ends = taken[1]
        else:
            way = ways[sign]
            if way.moves:
                reach = farthest(reach, ends, turned(way.reach, turn))
                ends = added(ends, turned(way.ends, turn))
            turn = (turn + way.turn) % directions
    return Way(turn, ends, reach)


def grown_ways(ways, rules, directions):
    """For each sign the way of what it becomes if ways are those of signs that have grown one time less."""
    after = dict(ways)
    for letter, word in rules.items():
        after[letter] = way_along(word, ways, directions)
    return after


def told_of(way):
    """x, y and the direction in which the pen ends, the least x and y, the greatest x and y."""
    half = len(way.ends) // 2
    low = [-way.reach[half], -way.reach[1]]
    high = [way.reach[0], way.reach[half + 1]]
    return [way.ends[0], -way.ends[1], way.turn] + low + high
