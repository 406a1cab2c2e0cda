"""What the tests share: calls as the interface lays them, and their answers one by one."""

from grownwords.desk import answers

NO_RULES = -9
OUT_OF_RANGE = -8
TOO_LONG = -6
LEAST_W = -2147483648
GREATEST_W = 2147483647
LEAST_PLACE = -9223372036854775808
GREATEST_PLACE = 9223372036854775807


def begin():
    return [0]


def read(text):
    """text: a str of signs below 256, or a list of bytes."""
    row = [ord(sign) for sign in text] if isinstance(text, str) else list(text)
    return [1, len(row)] + row


def long(n):
    return [2, n]


def often(n, c):
    return [3, n, ord(c) if isinstance(c, str) else c]


def part(n, first, most):
    return [4, n, first, most]


def walk(n):
    return [5, n]


def picture(n, x, y, w, h):
    return [6, n, x, y, w, h]


def split_answers(told):
    found = []
    start = 0
    while start < len(told):
        count = told[start]
        found.append(told[start + 1:start + 1 + count])
        assert len(found[-1]) == count and count > 0
        start += 1 + count
    return found


def ask(*calls):
    """The answers to these calls, one list for each."""
    return split_answers(answers([number for call in calls for number in call]))


def ask_numbers(*calls):
    """The answers to calls that answer one number each."""
    found = ask(*calls)
    assert all(len(answer) == 1 for answer in found)
    return [answer[0] for answer in found]


def ask_last(*calls):
    """The answer to the last of these calls."""
    return ask(*calls)[-1]


def first_difference(found, wanted):
    """The first place at which two lists differ, with what is there; None if they are the same.

    Of long lists unittest's own comparison takes minutes to tell.
    """
    if found == wanted:
        return None
    for place in range(min(len(found), len(wanted))):
        if found[place] != wanted[place]:
            return place, found[place], wanted[place]
    return "lengths", len(found), len(wanted)


def read_answer(text):
    """What read answers; and long behind it must agree on whether there are rules."""
    told, length = ask_numbers(read(text), long(0))
    assert (told < 0) == (length == NO_RULES), (told, length)
    return told
