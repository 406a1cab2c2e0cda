"""What the document says, done in the plainest way: words written down and a pen led along them sign by sign."""

import functools
import string

DIRECTIONS = {
    4: [(1, 0), (0, 1), (-1, 0), (0, -1)],
    6: [(1, 0), (0, 1), (-1, 1), (-1, 0), (0, -1), (1, -1)],
}


def text_of(first, rules, directions=4):
    lines = [str(directions), first] + [letter + "=" + rules[letter] for letter in rules]
    return "".join(line + "\n" for line in lines)


def next_word(word, rules):
    return "".join(rules.get(sign, sign) for sign in word)


def word_at(n, first, rules):
    word = first
    for time in range(n):
        word = next_word(word, rules)
    return word


def chain(times, step, last):
    """Rules of letters A, B, ..: each becomes what step tells of the next, the last one becomes last."""
    letters = string.ascii_uppercase + string.ascii_lowercase
    rules = {letters[k]: step(letters[k + 1]) for k in range(times)}
    rules[letters[times]] = last
    return rules


def random_system(chance, most, letters="ABcd"):
    """A first word and rules, each of at most so many pieces."""
    pieces = list(letters) + [".", "+", "-", "|", "[A]", "[c+B]", "[[-A]d.]", "[]"]
    rules = {}
    for letter in letters:
        if chance.random() < 0.8:
            rules[letter] = "".join(chance.choices(pieces, k=chance.randrange(most)))
    return "".join(chance.choices(pieces, k=chance.randrange(most + 2))), rules


def led(word, directions):
    """Where the pen ends, all points it came to, and those at which a drawn step began or ended."""
    pen = (0, 0, 0)
    kept = []
    points = {(0, 0)}
    drawn = set()
    for sign in word:
        x, y, direction = pen
        if sign in string.ascii_uppercase + ".":
            step = DIRECTIONS[directions][direction]
            pen = (x + step[0], y + step[1], direction)
            points.add(pen[:2])
            if sign != ".":
                drawn |= {(x, y), pen[:2]}
        elif sign in "+-|":
            turn = {"+": 1, "-": -1, "|": directions // 2}[sign]
            pen = (x, y, (direction + turn) % directions)
        elif sign == "[":
            kept.append(pen)
        elif sign == "]":
            pen = kept.pop()
    return pen, points, drawn


def walked(word, directions):
    pen, points, drawn = led(word, directions)
    xs = [x for x, y in points]
    ys = [y for x, y in points]
    return [0, *pen, min(xs), min(ys), max(xs), max(ys)]


def walked_from_boxes(n, first, rules, directions):
    """What walk answers of a word too long to be written down: a box for each letter, age and direction."""

    @functools.lru_cache(maxsize=None)
    def box(sign, age, direction):
        if age > 0 and sign in rules:
            return boxes(rules[sign], age - 1, direction)
        return tuple(along(sign, direction))

    def along(sign, direction):
        (x, y, end), points, drawn = led("+" * direction + sign, directions)
        xs = [point[0] for point in points]
        ys = [point[1] for point in points]
        return x, y, end, min(xs), min(ys), max(xs), max(ys)

    def boxes(word, age, direction):
        pen = (0, 0, direction)
        kept = []
        low_x = low_y = high_x = high_y = 0
        for sign in word:
            x, y, ahead = pen
            if sign == "[":
                kept.append(pen)
            elif sign == "]":
                pen = kept.pop()
            else:
                told = box(sign, age, ahead)
                pen = (x + told[0], y + told[1], told[2])
                low_x, low_y = min(low_x, x + told[3]), min(low_y, y + told[4])
                high_x, high_y = max(high_x, x + told[5]), max(high_y, y + told[6])
        return (*pen, low_x, low_y, high_x, high_y)

    return [0, *boxes(first, n, 0)]


def pictured(word, directions, x, y, w, h):
    drawn = led(word, directions)[2]
    return [0] + [int((x + k, y + row) in drawn) for row in range(h) for k in range(w)]
