"""Texts: lines that hold how many directions there are, the first word and the rules."""

from grownwords.signs import is_letter, is_word

LINE_END = 10


def lines_of(text):
    lines = []
    line = []
    for byte in text:
        if byte == LINE_END:
            lines.append(line)
            line = []
        else:
            line.append(byte)
    # Behind the last byte 10 a line begins only if something stands there.
    if len(line) > 0:
        lines.append(line)
    return lines


def is_directions(line):
    return line == [ord("4")] or line == [ord("6")]


def is_rule(line):
    if len(line) < 2:
        return False
    return is_letter(line[0]) and line[1] == ord("=") and is_word(line[2:])


def first_wrong_line(lines):
    """The number, from 1, of the first line that is wrong or missing; 0 if there is none."""
    if len(lines) < 1 or not is_directions(lines[0]):
        return 1
    if len(lines) < 2 or not is_word(lines[1]):
        return 2
    ruled = {}
    for place in range(2, len(lines)):
        line = lines[place]
        if not is_rule(line) or line[0] in ruled:
            return place + 1
        ruled[line[0]] = True
    return 0


def directions_of(lines):
    return 4 if lines[0] == [ord("4")] else 6


def first_word_of(lines):
    return lines[1]


def rules_of(lines):
    """The word of each letter that has a rule; the lines must be without a wrong one."""
    rules = {}
    for line in lines[2:]:
        rules[line[0]] = line[2:]
    return rules
