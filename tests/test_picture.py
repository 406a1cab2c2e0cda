"""Points 8 and 10: the pen's drawing, and picture."""

import random
import string
import unittest

from asking import (GREATEST_PLACE, GREATEST_W, LEAST_PLACE, LEAST_W, OUT_OF_RANGE, TOO_LONG, ask, ask_last, begin,
                    first_difference, long, picture, read)
from plain import DIRECTIONS, chain, pictured, random_system, text_of, word_at


def rows_of(word, directions, x, y, w, h):
    """What picture answers of a word that is the first, as rows; it must be 0 that stands ahead."""
    told = ask_last(read(f"{directions}\n{word}\n"), picture(0, x, y, w, h))
    assert told[0] == 0 and len(told) == 1 + w * h
    return [told[1 + k * w:1 + (k + 1) * w] for k in range(h)]


class Drawings(unittest.TestCase):

    def test_written_out(self):
        calls = [read("4\nA+AA"), picture(0, 0, 0, 3, 2), picture(0, 1, -1, 1, 4)]
        self.assertEqual(ask(*calls), [[0], [0, 1, 1, 0, 0, 1, 0], [0, 0, 1, 1, 1]])

    def test_a_step_in_every_direction(self):
        for directions, steps in DIRECTIONS.items():
            for turns, (x, y) in enumerate(steps):
                with self.subTest(directions=directions, turns=turns):
                    wanted = [[0] * 3 for k in range(3)]
                    wanted[1][1] = 1
                    wanted[1 + y][1 + x] = 1
                    self.assertEqual(rows_of("+" * turns + "Q", directions, -1, -1, 3, 3), wanted)

    def test_turns(self):
        for directions in (4, 6):
            for word in ("A-A-A", "A|A|AA", "A+|A", "-A+A", "|-A+A|A"):
                with self.subTest(directions=directions, word=word):
                    told = ask_last(read(f"{directions}\n{word}"), picture(0, -4, -4, 9, 9))
                    self.assertEqual(told, pictured(word, directions, -4, -4, 9, 9))

    def test_rows_in_their_order(self):
        # Five to the right, then three up, and one to the left.
        self.assertEqual(rows_of("AAAAA+AAA+A", 4, 0, 0, 6, 4),
                         [[1, 1, 1, 1, 1, 1], [0, 0, 0, 0, 0, 1], [0, 0, 0, 0, 0, 1], [0, 0, 0, 0, 1, 1]])
        self.assertEqual(rows_of("+A", 4, 0, 0, 1, 3), [[1], [1], [0]])
        self.assertEqual(rows_of("A", 4, 0, 0, 3, 1), [[1, 1, 0]])

    def test_parts_of_a_drawing(self):
        word = "AAAAA+AAA+A"
        self.assertEqual(rows_of(word, 4, 4, 1, 3, 2), [[0, 1, 0], [0, 1, 0]])
        self.assertEqual(rows_of(word, 4, 5, 3, 1, 1), [[1]])
        self.assertEqual(rows_of(word, 4, 3, 3, 1, 1), [[0]])
        self.assertEqual(rows_of(word, 4, 4, 3, 2, 2), [[1, 1], [0, 0]])

    def test_below_0(self):
        self.assertEqual(rows_of("|AA-A", 4, -3, -1, 4, 3), [[0, 0, 0, 0], [0, 1, 1, 1], [0, 1, 0, 0]])
        self.assertEqual(rows_of("-AA", 4, -1, -3, 2, 4), [[0, 0], [0, 1], [0, 1], [0, 1]])
        self.assertEqual(rows_of("AA", 4, -2, -1, 2, 2), [[0, 0], [0, 0]])

    def test_six_directions(self):
        self.assertEqual(rows_of("A++A++A", 6, -1, -1, 4, 4),
                         [[0, 0, 0, 0], [0, 1, 1, 0], [0, 1, 0, 0], [0, 0, 0, 0]])
        self.assertEqual(rows_of("A++A", 4, -1, -1, 4, 3), [[0, 0, 0, 0], [0, 1, 1, 0], [0, 0, 0, 0]])

    def test_a_step_that_is_not_drawn(self):
        self.assertEqual(rows_of(".A", 4, 0, 0, 4, 1), [[0, 1, 1, 0]])
        self.assertEqual(rows_of("A.", 4, 0, 0, 4, 1), [[1, 1, 0, 0]])
        self.assertEqual(rows_of("A..A", 4, 0, 0, 5, 1), [[1, 1, 0, 1, 1]])
        self.assertEqual(rows_of("A...A", 4, 0, 0, 6, 1), [[1, 1, 0, 0, 1, 1]])
        self.assertEqual(rows_of("....|A", 4, 0, 0, 6, 1), [[0, 0, 0, 1, 1, 0]])

    def test_drawing_within_brackets(self):
        self.assertEqual(rows_of("[AA]+A", 4, 0, 0, 3, 2), [[1, 1, 1], [1, 0, 0]])
        self.assertEqual(rows_of("A[+A[-A]]A", 4, 0, 0, 3, 2), [[1, 1, 1], [0, 1, 1]])
        self.assertEqual(rows_of("[..A].A", 4, 0, 0, 4, 1), [[0, 1, 1, 1]])

    def test_nothing_drawn(self):
        for word in ("", "....", "+-|", string.ascii_lowercase, "[.]", "[]"):
            for directions in (4, 6):
                self.assertEqual(rows_of(word, directions, -2, -2, 5, 5), [[0] * 5] * 5)

    def test_every_capital_letter_draws(self):
        for letter in string.ascii_uppercase:
            self.assertEqual(rows_of(letter, 4, 0, 0, 2, 1), [[1, 1]])
        for letter in string.ascii_lowercase + ".":
            self.assertEqual(rows_of(letter, 4, 0, 0, 2, 1), [[0, 0]])


class Windows(unittest.TestCase):

    def test_narrowest(self):
        self.assertEqual(rows_of("A", 4, 0, 0, 1, 1), [[1]])
        self.assertEqual(rows_of("A", 4, 2, 0, 1, 1), [[0]])

    def test_widest(self):
        line = [1] * 257 + [0] * 767
        self.assertEqual(rows_of("A" * 256, 4, 0, 0, 1024, 1), [line])
        self.assertEqual(rows_of("A" * 256, 4, -1023, 0, 1024, 1), [[0] * 1023 + [1]])
        self.assertEqual(rows_of("A" * 256, 4, -1024, 0, 1024, 1), [[0] * 1024])
        self.assertEqual(rows_of("+" + "A" * 255, 4, 0, 0, 1, 1024), [[1]] * 256 + [[0]] * 768)

    def test_largest(self):
        line = [1] * 257 + [0] * 767
        rows = rows_of("A" * 256, 4, 0, -1, 1024, 976)
        self.assertIsNone(first_difference(rows, [[0] * 1024, line] + [[0] * 1024] * 974))
        rows = rows_of("A" * 256, 4, 0, -1023, 976, 1024)
        self.assertIsNone(first_difference(rows, [[0] * 976] * 1023 + [line[:976]]))

    def test_width_and_height_out_of_range(self):
        text = read("4\nA\nA=AA")
        for ahead in ([], [begin()], [read("5")], [read("4\nA")], [text]):
            for n in (-1, 0, 24, 62, 64, 65, LEAST_W, GREATEST_W):
                for outside in (0, -1, 1025, LEAST_W, GREATEST_W):
                    with self.subTest(ahead=ahead, n=n, outside=outside):
                        calls = [picture(n, 0, 0, outside, 1), picture(n, 0, 0, 1, outside),
                                 picture(n, LEAST_PLACE, GREATEST_PLACE, outside, outside),
                                 picture(n, 0, 0, 1024, outside), picture(n, 0, 0, outside, 1024)]
                        self.assertEqual(ask(*ahead, *calls)[len(ahead):], [[OUT_OF_RANGE]] * 5)

    def test_ends_of_the_range_of_x_and_y(self):
        for directions in (4, 6):
            text = read(f"{directions}\n[AAA]|AAA[+AAA]-AAA")
            for x in (LEAST_PLACE, LEAST_PLACE + 1, -1, 0, GREATEST_PLACE - 1, GREATEST_PLACE):
                for y in (LEAST_PLACE, LEAST_PLACE + 1, -1, 0, GREATEST_PLACE - 1, GREATEST_PLACE):
                    if abs(x) > 1 or abs(y) > 1:
                        with self.subTest(directions=directions, x=x, y=y):
                            calls = [text, picture(0, x, y, 1024, 3), picture(0, x, y, 3, 1024)]
                            self.assertEqual(ask(*calls)[1:], [[0] * (1 + 3 * 1024)] * 2)

    def test_32_bits_further_on(self):
        for far in (2 ** 32, -2 ** 32, 2 ** 31, 2 ** 62):
            self.assertEqual(rows_of("AA", 4, far, 0, 3, 1), [[0, 0, 0]])
            self.assertEqual(rows_of("AA", 4, 0, far, 3, 1), [[0, 0, 0]])


class Growing(unittest.TestCase):

    def check(self, first, rules, n, window):
        word = word_at(n, first, rules)
        self.assertLessEqual(len(word), 20000)
        for directions in (4, 6):
            with self.subTest(first=first, rules=rules, n=n, directions=directions):
                found = ask_last(read(text_of(first, rules, directions)), picture(n, *window))
                self.assertIsNone(first_difference(found, pictured(word, directions, *window)))

    def test_curves(self):
        self.check("F", {"F": "F+F--F+F"}, 6, (-50, -10, 200, 100))
        self.check("F", {"F": "F+G", "G": "F-G"}, 13, (-100, -100, 200, 200))
        self.check("x", {"x": "F+[[x]-x]-F[-Fx]+x", "F": "FF"}, 5, (-20, -30, 100, 70))

    def test_random_ones(self):
        chance = random.Random(16)
        many = 0
        for number in range(150):
            first, rules = random_system(chance, 6)
            n = chance.randrange(7)
            if ask_last(read(text_of(first, rules)), long(n))[0] <= 20000:
                window = [chance.randrange(-6, 3), chance.randrange(-6, 3), chance.randrange(1, 9),
                          chance.randrange(1, 9)]
                self.check(first, rules, n, window)
                many += 1
        self.assertGreater(many, 100)

    def test_20000_signs(self):
        rules = {"A": "A" * 99 + "+", "B": "A+" * 50}
        self.assertEqual(len(word_at(1, "A" * 100 + "B" * 100, rules)), 20000)
        self.check("A" * 100 + "B" * 100, rules, 1, (-10, -10, 120, 120))
        straight = read("4\n" + "A" * 200 + "\nA=" + "A" * 100)
        self.assertEqual(ask_last(straight, picture(1, 19500, 0, 1000, 1)), [0] + [1] * 501 + [0] * 499)

    def test_deep_brackets(self):
        rules = {"A": "[" * 120 + "B+.[A]" + "]" * 120}
        self.check("A", rules, 64, (-5, -5, 10, 10))
        self.check("a", {"a": "[+A-a]A"}, 64, (-3, -1, 70, 70))

    def test_short_word_behind_long_ones(self):
        # The 14-th word has more than 2^56 signs; all of them vanish but five.
        rules = chain(14, lambda letter: letter * 16, "")
        rules["A"] = "B" * 16 + "ZZ.+Z"
        calls = [read(text_of("A", rules)), long(14), long(15), picture(14, 0, 0, 1, 1), picture(15, 0, 0, 5, 2)]
        wanted = [[15], [2 ** 56 + 5], [5], [TOO_LONG], [0, 1, 1, 1, 1, 0, 0, 0, 0, 1, 0]]
        self.assertEqual(ask(*calls), wanted)


class TooLong(unittest.TestCase):

    def test_the_limit_itself(self):
        self.assertEqual(ask(read("4\nA\nA=AA"), long(24), picture(24, 0, 0, 1, 1)), [[1], [2 ** 24], [TOO_LONG]])
        self.assertEqual(ask(read("4\na\na=aaaa"), long(12), picture(12, 0, 0, 1, 1)), [[1], [2 ** 24], [TOO_LONG]])

    def test_longer_ones(self):
        for n in (25, 32, 61, 62, 63, 64):
            with self.subTest(n=n):
                calls = [read("4\nA\nA=AA"), picture(n, 0, 0, 1, 1), picture(n, 5, -7, 1024, 1024)]
                self.assertEqual(ask(*calls), [[1], [TOO_LONG], [TOO_LONG]])

    def test_a_refusal_changes_nothing(self):
        calls = [read("4\nA\nA=AA"), picture(24, 0, 0, 1, 1), picture(0, 0, 0, 0, 1), picture(1, 0, 0, 4, 1)]
        self.assertEqual(ask(*calls), [[1], [TOO_LONG], [OUT_OF_RANGE], [0, 1, 1, 1, 0]])


if __name__ == "__main__":
    unittest.main()
