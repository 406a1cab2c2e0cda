"""Where a list of calls on one new object is answered."""

from grownwords.grower import Grower

BEGIN = 0
READ = 1
LONG = 2
OFTEN = 3
PART = 4
WALK = 5
# How many numbers each call has, its own number too, but without the text of read.
SIZES = (1, 2, 2, 3, 4, 2, 6)


class UnknownCall(ValueError):
    """The number is no call's."""


def end_of_call(calls, start):
    """The place behind the call that begins at the place start."""
    number = calls[start]
    if number < 0 or number >= len(SIZES):
        raise UnknownCall(f"no call has the number {number}")
    end = start + SIZES[number]
    if number == READ:
        return end + calls[start + 1]
    return end


def answer_of(grower, call):
    number = call[0]
    if number == BEGIN:
        return grower.begin()
    if number == READ:
        return grower.read(call[2:])
    if number == LONG:
        return grower.long(call[1])
    if number == OFTEN:
        return grower.often(call[1], call[2])
    if number == PART:
        return grower.part(call[1], call[2], call[3])
    if number == WALK:
        return grower.walk(call[1])
    return grower.picture(call[1], call[2], call[3], call[4], call[5])


def answers(calls):
    grower = Grower()
    told = []
    start = 0
    while start < len(calls):
        end = end_of_call(calls, start)
        answer = answer_of(grower, calls[start:end])
        told.append(len(answer))
        told.extend(answer)
        start = end
    return told
