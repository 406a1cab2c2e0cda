"""Points 8 and 9: the pen, and walk."""

import random
import string
import unittest

from asking import ask, ask_last, long, read, walk
from plain import DIRECTIONS, random_system, text_of, walked, walked_from_boxes, word_at


def walk_of(word, directions):
    """What walk answers of a word that is the first."""
    return ask_last(read(f"{directions}\n{word}\n"), walk(0))


class Pen(unittest.TestCase):

    def test_written_out(self):
        self.assertEqual(ask(read("4\nA+A"), walk(0)), [[0], [0, 1, 1, 1, 0, 0, 1, 1]])
        self.assertEqual(ask(read("6\nA++A-"), walk(0)), [[0], [0, 0, 1, 1, 0, 0, 1, 1]])
        self.assertEqual(ask(read("4\n-A.|AAA"), walk(0)), [[0], [0, 0, 1, 1, 0, -2, 0, 1]])

    def test_a_step_in_every_direction(self):
        for directions, steps in DIRECTIONS.items():
            for turns, (x, y) in enumerate(steps):
                for sign in ".AMZ":
                    with self.subTest(directions=directions, turns=turns, sign=sign):
                        wanted = [0, x, y, turns, min(x, 0), min(y, 0), max(x, 0), max(y, 0)]
                        self.assertEqual(walk_of("+" * turns + sign, directions), wanted)

    def test_a_turn_from_every_direction(self):
        for directions, steps in DIRECTIONS.items():
            for turns in range(directions):
                for sign, turn in (("+", 1), ("-", -1), ("|", directions // 2)):
                    with self.subTest(directions=directions, turns=turns, sign=sign):
                        end = (turns + turn) % directions
                        self.assertEqual(walk_of("+" * turns + sign, directions), [0, 0, 0, end, 0, 0, 0, 0])
                        x, y = steps[end]
                        self.assertEqual(walk_of("+" * turns + sign + "A", directions)[:4], [0, x, y, end])

    def test_turns_to_the_right_alone(self):
        for directions, steps in DIRECTIONS.items():
            for turns in range(directions + 1):
                x, y = steps[-turns % directions]
                self.assertEqual(walk_of("-" * turns + "A", directions)[:4], [0, x, y, -turns % directions])

    def test_small_letters_do_nothing(self):
        for directions in (4, 6):
            self.assertEqual(walk_of(string.ascii_lowercase, directions), [0] * 8)
            self.assertEqual(walk_of("a+bAcz", directions), walk_of("+A", directions))

    def test_every_capital_letter_draws_a_step(self):
        for directions in (4, 6):
            self.assertEqual(walk_of(string.ascii_uppercase, directions), [0, 26, 0, 0, 0, 0, 26, 0])

    def test_empty_word(self):
        for directions in (4, 6):
            calls = [read(f"{directions}\n\n"), walk(0), walk(1), walk(64)]
            self.assertEqual(ask(*calls), [[0]] + [[0] * 8] * 3)
            self.assertEqual(ask_last(read(f"{directions}\nAA\nA="), walk(1)), [0] * 8)


class Brackets(unittest.TestCase):

    def test_place_and_direction_are_taken_back(self):
        self.assertEqual(walk_of("A[+A]A", 4), [0, 2, 0, 0, 0, 0, 2, 1])
        self.assertEqual(walk_of("+A[|]A", 4), [0, 0, 2, 1, 0, 0, 0, 2])
        self.assertEqual(walk_of("A[+.]A", 6), [0, 2, 0, 0, 0, 0, 2, 1])

    def test_points_within_brackets_alone(self):
        self.assertEqual(walk_of("[AAA]", 4), [0, 0, 0, 0, 0, 0, 3, 0])
        self.assertEqual(walk_of("[+AAA]", 4), [0, 0, 0, 0, 0, 0, 0, 3])
        self.assertEqual(walk_of("[|AAA]", 4), [0, 0, 0, 0, -3, 0, 0, 0])
        self.assertEqual(walk_of("[-AAA]", 4), [0, 0, 0, 0, 0, -3, 0, 0])
        self.assertEqual(walk_of("[..]|A", 6), [0, -1, 0, 3, -1, 0, 2, 0])

    def test_points_come_to_on_the_way_alone(self):
        for directions in (4, 6):
            self.assertEqual(walk_of("AAA|AAAAA|AA", directions), [0, 0, 0, 0, -2, 0, 3, 0])

    def test_the_first_point_counts(self):
        self.assertEqual(walk_of("A", 4), [0, 1, 0, 0, 0, 0, 1, 0])
        self.assertEqual(walk_of("||-A+A", 4), [0, 1, -1, 0, 0, -1, 1, 0])

    def test_nested(self):
        word = "A[+A[+A[+A]-A].]A"
        for directions in (4, 6):
            self.assertEqual(walk_of(word, directions), walked(word, directions))
        self.assertEqual(walk_of(word, 4), [0, 2, 0, 0, 0, 0, 2, 2])

    def test_empty_ones(self):
        self.assertEqual(walk_of("[][[]]A[][]", 4), [0, 1, 0, 0, 0, 0, 1, 0])
        self.assertEqual(walk_of("[]", 6), [0] * 8)

    def test_as_deep_as_a_word_allows(self):
        for inside in ("", "AA+", ".", "b"):
            pairs = (256 - len(inside)) // 2
            word = "[" * pairs + inside + "]" * pairs
            for directions in (4, 6):
                self.assertEqual(walk_of(word, directions), walked(word, directions))
        word = "[A+" * 64 + "]" * 64
        for directions in (4, 6):
            self.assertEqual(walk_of(word, directions), walked(word, directions))

    def test_grown_deeper_than_a_thousand(self):
        rules = {"A": "[" * 120 + "B+.[A]" + "]" * 120}
        self.assertGreater(word_at(64, "A", rules).count("["), 7000)
        for directions in (4, 6):
            wanted = walked(word_at(64, "A", rules), directions)
            self.assertEqual(ask_last(read(text_of("A", rules, directions)), walk(64)), wanted)

    def test_one_bracket_in_another_by_growth(self):
        rules = {"f": "G[+f]"}
        for n in (0, 1, 2, 3, 7, 64):
            for directions in (4, 6):
                wanted = walked(word_at(n, "f", rules), directions)
                self.assertEqual(ask_last(read(text_of("f", rules, directions)), walk(n)), wanted)


class Growing(unittest.TestCase):

    def check(self, first, rules, most):
        for directions in (4, 6):
            found = ask(read(text_of(first, rules, directions)), *[walk(n) for n in range(most + 1)])
            wanted = [walked(word_at(n, first, rules), directions) for n in range(most + 1)]
            self.assertEqual(found[1:], wanted, (first, rules, directions))

    def test_curves(self):
        self.check("F", {"F": "F+G", "G": "F-G"}, 11)
        self.check("F", {"F": "F+F--F+F"}, 5)
        self.check("F", {"F": "F[+F]F[-F]F"}, 5)
        self.check("x", {"x": "F+[[x]-x]-F[-Fx]+x", "F": "FF"}, 5)
        self.check("F|F+F", {"F": "F|+F.-F"}, 5)

    def test_small_letters_with_rules_of_capital_ones(self):
        self.check("a", {"a": "A+b", "b": "Ba"}, 9)
        self.check("a", {"a": "aA"}, 9)

    def test_capital_letters_with_rules_of_small_ones(self):
        self.check("AB", {"A": "a+b"}, 3)
        self.check("A", {"A": "aA", "a": "A"}, 9)

    def test_random_ones(self):
        chance = random.Random(12)
        for number in range(150):
            first, rules = random_system(chance, 6)
            self.check(first, rules, 4)

    def test_any_order_of_n(self):
        rules = {"F": "F+G", "G": "F-G."}
        order = [7, 3, 0, 8, 1, 7, 0, 5]
        found = ask(read(text_of("F", rules)), *[walk(n) for n in order])
        self.assertEqual(found[1:], [walked(word_at(n, "F", rules), 4) for n in order])

    def test_directions_of_the_last_text(self):
        calls = [read("4\nA++A"), walk(0), read("6\nA++A"), walk(0), read("4\nA++A"), walk(0)]
        four = [0, 0, 0, 2, 0, 0, 1, 0]
        self.assertEqual(ask(*calls), [[0], four, [0], [0, 0, 1, 2, 0, 0, 1, 1], [0], four])


def complex_power(directions, straight, turned, n):
    """Where a pen ends if each growth makes straight steps of a step, and turned ones one turn to the left."""
    x, y = 1, 0
    for time in range(n):
        left = (-y, x) if directions == 4 else (-y, x + y)
        x, y = straight * x + turned * left[0], straight * y + turned * left[1]
    return x, y


class LongWords(unittest.TestCase):

    def test_straight_on(self):
        for directions in (4, 6):
            for turns, (x, y) in enumerate(DIRECTIONS[directions]):
                far = 3 ** 39
                wanted = [0, x * far, y * far, turns, min(x, 0) * far, min(y, 0) * far, max(x, 0) * far,
                          max(y, 0) * far]
                text = read(f"{directions}\n{'+' * turns}A\nA=AAA")
                self.assertEqual(ask_last(text, walk(39)), wanted)
                self.assertEqual(ask_last(read(f"{directions}\n{'+' * turns}[A]\nA=AAA"), walk(39)),
                                 [0, 0, 0] + wanted[3:])

    def test_odd_numbers(self):
        calls = [read("4\nf\nf=fF\nF=FF"), long(61), walk(61)]
        self.assertEqual(ask(*calls)[1:], [[2 ** 61], [0, 2 ** 61 - 1, 0, 0, 0, 0, 2 ** 61 - 1, 0]])
        calls = [read("6\n|f\nf=fF\nF=FF"), walk(61)]
        self.assertEqual(ask_last(*calls), [0, 1 - 2 ** 61, 0, 3, 1 - 2 ** 61, 0, 0, 0])

    def test_steps_without_drawing(self):
        calls = [read("4\n+f\nf=f.g.\ng=.gg"), long(40), walk(40)]
        x, y = ask(*calls)[2][1:3]
        # g has 2^k letters and 2^k - 1 steps, f the steps of its g and two more each time.
        self.assertEqual((x, y), (0, sum(2 ** k - 1 + 2 for k in range(40))))

    def test_none_but_small_letters(self):
        self.assertEqual(ask_last(read("6\n+fg\nf=ff\ng=F"), walk(61)), [0, 0, 1, 1, 0, 0, 0, 1])

    def test_drawn_larger(self):
        # Each step of a word becomes 3^k steps straight on: all of the walk is so much larger.
        chance = random.Random(13)
        pieces = ["A", "A", "B", "+", "-", "|", "[A-A]", "[+[B]B|A]"]
        for number in range(40):
            first = "".join(chance.choices(pieces, k=20))
            for directions in (4, 6):
                told = walked(first, directions)
                wanted = [number * 3 ** 35 for number in told]
                wanted[3] = told[3]
                text = read(f"{directions}\n{first}\nA=AAA\nB=BBB")
                self.assertEqual(ask_last(text, walk(35)), wanted)

    def test_drawn_larger_behind_turns_that_grow(self):
        chance = random.Random(14)
        pieces = ["b", "b+", "b-", "b|", "[b]", "[+b-b]", "[-[b]b]"]
        for number in range(40):
            rules = {letter: "".join(chance.choices(pieces, k=3)) for letter in "abcd"}
            for letter, after in zip("abcd", "bcdE"):
                rules[letter] = rules[letter].replace("b", after)
            rules["E"] = "EEE"
            for directions in (4, 6):
                told = walked(word_at(4, "a", rules), directions)
                wanted = [number * 3 ** 30 for number in told]
                wanted[3] = told[3]
                text = read(text_of("a", rules, directions))
                self.assertEqual(ask_last(text, walk(34)), wanted)

    def test_ends_of_curves(self):
        for directions in (4, 6):
            for straight, turned, n in ((2, 1, 38), (4, 1, 26), (1, 2, 38), (9, 1, 18)):
                rule = "A" * straight + "+" + "A" * turned + "-"
                told = ask_last(read(f"{directions}\nA\nA={rule}"), walk(n))
                self.assertEqual(tuple(told[1:4]), complex_power(directions, straight, turned, n) + (0,))
                self.assertLessEqual(told[4], min(told[1], 0))
                self.assertLessEqual(told[5], min(told[2], 0))
                self.assertGreaterEqual(told[6], max(told[1], 0))
                self.assertGreaterEqual(told[7], max(told[2], 0))
        self.assertGreater(max(map(abs, complex_power(4, 9, 1, 18))), 2 ** 53)

    def test_snowflake(self):
        # Its largest height is that of the first bump.
        found = ask_last(read("6\nF\nF=F+F--F+F"), walk(30))
        self.assertEqual(found, [0, 3 ** 30, 0, 0, 0, 0, 3 ** 30, 3 ** 29])

    def test_dragon(self):
        # Eight times more make the dragon sixteen times as large, and it looks the same way.
        found = ask(read("4\nF\nF=F+G\nG=F-G"), *[walk(n) for n in (4, 12, 20, 60)])[1:]
        self.assertEqual([told[1:3] for told in found], [[-4 * 16 ** k, 0] for k in (0, 1, 2, 7)])

    def test_long_way_within_brackets(self):
        # Each time's two ways out are left again, the largest of them ahead of the smaller ones.
        rules = {"x": "[+A][-AA]x", "A": "AA"}
        for directions in (4, 6):
            far = 2 ** 50
            found = ask_last(read(text_of("x", rules, directions)), walk(51))
            right = DIRECTIONS[directions][-1]
            wanted = [0, 0, 0, 0, 0, -2 * far, 2 * right[0] * far, far]
            self.assertEqual(found, wanted)

    def test_grown_without_walking(self):
        self.assertEqual(ask_last(read("4\nA\nA=[A]A+"), walk(30))[:4], [0, 1, 0, 30 % 4])

    def test_random_ones(self):
        chance = random.Random(15)
        farthest = 0
        for number in range(120):
            first, rules = random_system(chance, 5, "AAAAAABBcd")
            for directions in (4, 6):
                text = read(text_of(first, rules, directions))
                lengths = ask(text, *[long(n) for n in range(65)])[1:]
                last = max(n for n in range(65) if lengths[n][0] >= 0)
                told = ask(text, walk(last), walk(last // 2))[1:]
                wanted = [walked_from_boxes(n, first, rules, directions) for n in (last, last // 2)]
                self.assertEqual(told, wanted, (first, rules, directions, last))
                farthest = max(farthest, max(told[0]))
        self.assertGreater(farthest, 2 ** 53)


if __name__ == "__main__":
    unittest.main()
