"""How words grow, told by tallies: how often each sign stands in a word.

The words themselves soon are too long to be written down; their tallies never are.
"""

LAST_WORD = 64
# 2 to the power of 62: a word of so many signs is told of no more.
TOO_MANY_SIGNS = 4611686018427387904


def tally_of(word):
    tally = {}
    for sign in word:
        tally[sign] = tally.get(sign, 0) + 1
    return tally


def add_times(tally, more, times):
    for sign, count in more.items():
        tally[sign] = tally.get(sign, 0) + count * times


def grown(tally, rule_tallies):
    """The tally of the next word."""
    after = {}
    for sign, times in tally.items():
        add_times(after, rule_tallies.get(sign, {sign: 1}), times)
    return after


def signs_in(tally):
    return sum(tally.values())


def tallies_of(first_word, rules):
    """The tallies from the 0-th word on: of all that may be asked for, or of those ahead of the first too long one."""
    rule_tallies = {}
    for letter, word in rules.items():
        rule_tallies[letter] = tally_of(word)
    tallies = []
    tally = tally_of(first_word)
    while len(tallies) <= LAST_WORD and signs_in(tally) < TOO_MANY_SIGNS:
        tallies.append(tally)
        tally = grown(tally, rule_tallies)
    return tallies
