"""The signs that words are made of, as bytes, and what is a word."""

MOST_SIGNS = 256
GOING = 46
LEFT = 43
RIGHT = 45
AROUND = 124
OPENING = 91
CLOSING = 93
# . + - | [ ]
MARKS = (46, 43, 45, 124, 91, 93)


def is_capital(byte):
    return ord("A") <= byte <= ord("Z")


def is_letter(byte):
    return is_capital(byte) or ord("a") <= byte <= ord("z")


def is_sign(byte):
    return is_letter(byte) or byte in MARKS


def all_signs():
    return [byte for byte in range(128) if is_sign(byte)]


def brackets_match(signs):
    depth = 0
    for sign in signs:
        if sign == OPENING:
            depth += 1
        if sign == CLOSING:
            depth -= 1
        if depth < 0:
            return False
    return depth == 0


def is_word(signs):
    if len(signs) > MOST_SIGNS:
        return False
    return all([is_sign(sign) for sign in signs]) and brackets_match(signs)
