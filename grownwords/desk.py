"""Where a list of calls on one new object is answered."""

from grownwords.grower import Grower

BEGIN = 0
READ = 1
LONG = 2
OFTEN = 3


class UnknownCall(ValueError):
    """The number is no call's."""


def end_of_call(calls, start):
    """The place behind the call that begins at the place start."""
    number = calls[start]
    if number == BEGIN:
        return start + 1
    if number == READ:
        return start + 2 + calls[start + 1]
    if number == LONG:
        return start + 2
    if number == OFTEN:
        return start + 3
    raise UnknownCall(f"no call has the number {number}")


def answer_of(grower, call):
    number = call[0]
    if number == BEGIN:
        return grower.begin()
    if number == READ:
        return grower.read(call[2:])
    if number == LONG:
        return grower.long(call[1])
    return grower.often(call[1], call[2])


def answers(calls):
    grower = Grower()
    told = []
    start = 0
    while start < len(calls):
        end = end_of_call(calls, start)
        answer = answer_of(grower, calls[start:end])
        told.append(len(answer))
        told.extend(answer)
        start = end
    return told
