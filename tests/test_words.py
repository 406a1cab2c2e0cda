"""Points 4, 5 and 6: the n-th word, the refusals of all calls that tell of it, long and often."""

import random
import string
import unittest

from asking import (GREATEST_W, LEAST_W, NO_RULES, OUT_OF_RANGE, TOO_LONG, ask, ask_numbers, begin, long, often, part,
                    picture, read, walk)
from plain import chain, next_word, random_system, text_of

SIGNS = string.ascii_letters + ".+-|[]"
LIMIT = 2 ** 62


class Growth(unittest.TestCase):

    def check(self, first, rules, most):
        word = first
        for n in range(most + 1):
            calls = [read(text_of(first, rules)), long(n)] + [often(n, sign) for sign in SIGNS]
            wanted = [len(rules), len(word)] + [word.count(sign) for sign in SIGNS]
            with self.subTest(first=first, rules=rules, n=n):
                self.assertEqual(ask_numbers(*calls), wanted)
            word = next_word(word, rules)

    def test_word_0_is_the_first(self):
        calls = [read("4\nABA+\nA=BBBB"), long(0), often(0, "A"), often(0, "B"), often(0, "+")]
        self.assertEqual(ask_numbers(*calls), [1, 4, 2, 1, 1])

    def test_all_letters_at_once(self):
        # One after another, A=B and B=A would come to nothing but one letter.
        calls = [read("4\nAAB\nA=B\nB=A"), often(1, "A"), often(1, "B"), often(2, "A"), often(2, "B")]
        self.assertEqual(ask_numbers(*calls), [2, 1, 2, 2, 1])

    def test_fibonacci(self):
        calls = [read("4\nA\nA=AB\nB=A")] + [long(n) for n in (0, 1, 2, 3, 4, 5, 6, 64)]
        self.assertEqual(ask_numbers(*calls), [2, 1, 2, 3, 5, 8, 13, 21, 27777890035288])

    def test_letters_with_no_rule_stay(self):
        self.check("AxB", {"A": "Ax"}, 5)

    def test_no_rules_at_all(self):
        self.check("A[+b]|.-", {}, 3)

    def test_large_and_small_letters_differ(self):
        self.check("Aa", {"A": "aa"}, 3)
        self.check("Aa", {"a": "AA"}, 3)

    def test_letter_that_vanishes(self):
        self.check("AAB", {"A": ""}, 2)
        self.check("AB", {"A": "B", "B": ""}, 4)

    def test_marks_stay(self):
        self.check("F", {"F": "F[+F]F[-F]|.F"}, 4)

    def test_grown_deeper_than_a_word_allows(self):
        deep = "[" * 127 + "A" + "]" * 127
        calls = [read("4\nA\nA=" + deep), long(64), often(64, "["), often(64, "A"), often(64, "]")]
        self.assertEqual(ask_numbers(*calls), [1, 64 * 254 + 1, 64 * 127, 1, 64 * 127])

    def test_against_words_written_down(self):
        chance = random.Random(6)
        for number in range(30):
            first, rules = random_system(chance, 4)
            self.check(first, rules, 4)

    def test_largest_rules(self):
        letters = string.ascii_letters
        rules = {letter: letters[:26] * 3 if letter in letters[:20] else letters for letter in letters}
        self.assertLessEqual(len(text_of("Az", rules)), 4096)
        self.check("Az", rules, 2)


class Often(unittest.TestCase):

    def test_each_kind_of_sign(self):
        calls = [read("4\nF\nF=F[+x]F-.|")]
        calls += [often(2, sign) for sign in "Fx[]+-.|"]
        self.assertEqual(ask_numbers(*calls), [1, 4, 3, 3, 3, 3, 3, 3, 3])

    def test_what_is_no_sign_of_a_word(self):
        calls = [read("4\nAB\nA=AB")]
        calls += [often(1, c) for c in (0, 10, ord("="), ord("4"), 255, 256, 256 + ord("A"), 2 ** 31, 4294967295)]
        self.assertEqual(ask_numbers(*calls), [1] + [0] * 9)

    def test_sign_that_is_not_among_them(self):
        self.assertEqual(ask_numbers(read("4\nAB\nA=B"), often(0, "C"), often(1, "A"), often(0, "[")), [1, 0, 0, 0])

    def test_large_counts(self):
        calls = [read("4\nA\nA=AA"), often(61, "A"), often(61, "B")]
        self.assertEqual(ask_numbers(*calls), [1, 2 ** 61, 0])

    def test_letter_without_rule_that_comes_of_one(self):
        calls = [read("4\nA\nA=AAb"), often(40, "b"), often(40, "A"), long(40)]
        self.assertEqual(ask_numbers(*calls), [1, 2 ** 40 - 1, 2 ** 40, 2 ** 41 - 1])


class Refusals(unittest.TestCase):

    OUTSIDE = (-1, 65, LEAST_W, GREATEST_W)

    def told_of(self, n):
        """Every call that tells of the n-th word, with nothing else in it that would be refused."""
        return [long(n), often(n, "A"), often(n, 4294967295), part(n, 0, 3), walk(n), picture(n, 0, 0, 2, 1)]

    def check(self, ahead, n, refusal):
        with self.subTest(ahead=ahead, n=n):
            self.assertEqual(ask(*ahead, *self.told_of(n))[len(ahead):], [[refusal]] * 6)

    def test_range_of_n(self):
        for n in self.OUTSIDE:
            self.check([read("4\nA")], n, OUT_OF_RANGE)
        for n in (0, 1, 64):
            with self.subTest(n=n):
                wanted = [[0], [1], [1], [0], [1, ord("A")], [0, 1, 0, 0, 0, 0, 1, 0], [0, 1, 1]]
                self.assertEqual(ask(read("4\nA"), *self.told_of(n)), wanted)

    def test_no_rules_comes_first(self):
        good = read("4\nA\nA=AA")
        for n in self.OUTSIDE + (0, 1, 64):
            for ahead in ([], [begin()], [read("")], [read("4\nA\nA=[")], [good, begin()], [good, read("4\n[")]):
                self.check(ahead, n, NO_RULES)

    def test_range_comes_before_too_long(self):
        for n in self.OUTSIDE:
            self.check([read("4\nA\nA=AA")], n, OUT_OF_RANGE)
        for n in (62, 63, 64):
            self.check([read("4\nA\nA=AA")], n, TOO_LONG)

    def test_earlier_word_too_long(self):
        rules = chain(31, lambda letter: letter * 4, "")
        for n in (31, 32, 33, 64):
            self.check([read(text_of("A", rules))], n, TOO_LONG)

    def test_first_word_alone_has_words(self):
        for text in ("4\n", "6\n"):
            calls = [read(text + "A"), walk(64), part(64, 0, 9), picture(64, 0, 0, 1, 1)]
            self.assertEqual(ask(*calls), [[0], [0, 1, 0, 0, 0, 0, 1, 0], [1, ord("A")], [0, 1]])

    def test_a_refusal_changes_nothing(self):
        calls = [read("4\nA\nA=AA"), long(65), long(64), long(-1), long(5)]
        self.assertEqual(ask_numbers(*calls), [1, OUT_OF_RANGE, TOO_LONG, OUT_OF_RANGE, 32])

    def test_first_word_is_never_too_long(self):
        text = "4\n" + "A" * 256 + "\nA=" + "A" * 256
        self.assertEqual(ask_numbers(read(text), long(0), long(6), long(7)), [1, 256, 2 ** 56, TOO_LONG])


class TooLong(unittest.TestCase):

    def test_doubled(self):
        calls = [read("4\nA\nA=AA"), long(60), long(61), long(62), long(63), long(64), often(62, "A"), often(62, "B")]
        self.assertEqual(ask_numbers(*calls), [1, 2 ** 60, 2 ** 61] + [TOO_LONG] * 5)

    def test_one_below_the_limit(self):
        rules = dict(chain(30, lambda letter: letter + "zzz", "zzz"), z="zzzz")
        calls = [read(text_of("A", rules)), long(30), long(31), often(31, "z"), often(31, "A"), long(32)]
        self.assertEqual(ask_numbers(*calls), [32, 4 ** 30, LIMIT - 1, LIMIT - 1, 0, TOO_LONG])

    def test_the_limit_itself(self):
        rules = dict(chain(30, lambda letter: letter + "zzz", "zzzz"), z="zzzz")
        calls = [read(text_of("A", rules)), long(30), long(31), often(31, "z"), often(31, "A")]
        self.assertEqual(ask_numbers(*calls), [32, 4 ** 30, TOO_LONG, TOO_LONG, TOO_LONG])

    def test_one_above_the_limit(self):
        rules = dict(chain(30, lambda letter: letter + "zzz", "zzzzz"), z="zzzz")
        self.assertEqual(ask_numbers(read(text_of("A", rules)), long(30), long(31)), [32, 4 ** 30, TOO_LONG])

    def test_all_signs_count_together(self):
        # Each sign alone is below the limit.
        calls = [read("4\nAB\nA=AA\nB=BB"), long(60), often(60, "A"), long(61), often(61, "A"), often(61, "C")]
        self.assertEqual(ask_numbers(*calls), [2, 2 ** 61, 2 ** 60, TOO_LONG, TOO_LONG, TOO_LONG])

    def test_earlier_word_too_long(self):
        rules = chain(31, lambda letter: letter * 4, "")
        calls = [read(text_of("A", rules)), long(30), long(31), long(32), long(64), often(32, "A")]
        self.assertEqual(ask_numbers(*calls), [32, 4 ** 30, TOO_LONG, TOO_LONG, TOO_LONG, TOO_LONG])

    def test_earlier_word_just_short_enough(self):
        rules = chain(31, lambda letter: letter * 4, "")
        rules["E"] = "FFF"
        calls = [read(text_of("A", rules)), long(31), long(32), long(64), often(32, "A")]
        self.assertEqual(ask_numbers(*calls), [32, 3 * 4 ** 30, 0, 0, 0])

    def layers(self, last_large):
        """Every letter becomes 256 of the next layer's in 7 steps; then all vanish. The 7-th word comes of 2^62."""
        rules = {}
        for k in range(7):
            rules["ABCDEFG"[k]] = "BCDEFGH"[k] + "bcdefgh"[k] * 255
            rules["abcdefg"[k]] = "bcdefgh"[k] * 256
        rules["G"] = last_large
        return read(text_of("A" + "a" * 63, dict(rules, H="", h="")))

    def test_earlier_word_one_below_the_limit(self):
        calls = [self.layers("h" * 255), long(6), long(7), often(7, "h"), long(8), often(8, "h"), long(64)]
        self.assertEqual(ask_numbers(*calls), [16, 2 ** 54, LIMIT - 1, LIMIT - 1, 0, 0, 0])

    def test_earlier_word_of_the_limit(self):
        calls = [self.layers("h" * 256), long(6), long(7), often(7, "h"), long(8), often(8, "h"), long(64)]
        self.assertEqual(ask_numbers(*calls), [16, 2 ** 54] + [TOO_LONG] * 5)

    def test_longest_first_word_and_rules(self):
        rules = {letter: "A" * 256 for letter in string.ascii_uppercase[:15]}
        calls = [read(text_of("A" * 200, rules)), long(6), long(7), long(64)]
        self.assertEqual(ask_numbers(*calls), [15, 200 * 256 ** 6, TOO_LONG, TOO_LONG])


if __name__ == "__main__":
    unittest.main()
