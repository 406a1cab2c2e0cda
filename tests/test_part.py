"""Point 7: part."""

import random
import string
import unittest

from asking import (GREATEST_PLACE, GREATEST_W, LEAST_PLACE, LEAST_W, OUT_OF_RANGE, ask, ask_last, begin,
                    first_difference, long, part, read)
from plain import chain, random_system, text_of, word_at

LIMIT = 2 ** 62


def told(signs):
    """The answer that tells these signs."""
    return [len(signs)] + [ord(sign) for sign in signs]


class ShortWords(unittest.TestCase):

    def check(self, first_word, rules, n):
        """Every part of the word, and some that reach behind it."""
        word = word_at(n, first_word, rules)
        places = [(first, most) for first in range(len(word) + 3) for most in range(len(word) + 3)]
        for start in range(0, len(places), 99):
            some = places[start:start + 99]
            found = ask(read(text_of(first_word, rules)), *[part(n, first, most) for first, most in some])
            wanted = [told(word[first:first + most]) for first, most in some]
            self.assertEqual(found, [[len(rules)]] + wanted, (first_word, rules, n))

    def test_written_out(self):
        text = read("4\nAB\nA=A+b\nB=")
        self.assertEqual(ask(text, part(2, 0, 9)), [[2], [5, 65, 43, 98, 43, 98]])
        self.assertEqual(ask(text, part(2, 0, 2)), [[2], [2, 65, 43]])
        self.assertEqual(ask(text, part(2, 1, 3)), [[2], [3, 43, 98, 43]])
        self.assertEqual(ask(text, part(2, 3, 2)), [[2], [2, 43, 98]])
        self.assertEqual(ask(text, part(0, 1, 1)), [[2], [1, 66]])

    def test_every_part(self):
        self.check("AB", {"A": "A[+B]", "B": "A"}, 3)

    def test_word_0(self):
        self.check("A[+b].|-", {"A": "AA"}, 0)

    def test_letters_without_a_rule_and_marks(self):
        self.check("xA.y", {"A": "[+A]z|.-"}, 2)
        self.check("Ab[+C]|.-", {}, 5)

    def test_letters_whose_word_is_empty(self):
        self.check("xAxBx", {"x": "", "A": "xBx", "B": "AxA"}, 3)
        self.check("xAxBx", {"x": "y", "y": "", "A": "xBx", "B": "AxA"}, 3)
        self.check("AAAA", {"A": "B", "B": ""}, 1)
        self.check("AAAA", {"A": "B", "B": ""}, 2)
        self.check("AxA", {"A": ""}, 1)

    def test_letter_within_its_own_word(self):
        self.check("A", {"A": "bAc"}, 5)
        self.check("A", {"A": "Ab"}, 9)
        self.check("A", {"A": "bA"}, 9)

    def test_empty_word(self):
        self.check("", {}, 0)
        self.check("", {"A": "AA"}, 64)

    def test_every_sign(self):
        signs = string.ascii_letters + ".+-|[]"
        self.assertEqual(ask_last(read("4\n" + signs), part(64, 0, 58)), told(signs))


class Ends(unittest.TestCase):

    TEXT = read("4\nAB\nA=AB\nB=A")
    # The 4-th word.
    WORD = word_at(4, "AB", {"A": "AB", "B": "A"})

    def check(self, first, most, wanted):
        with self.subTest(first=first, most=most):
            self.assertEqual(ask_last(self.TEXT, part(4, first, most)), wanted)

    def test_first(self):
        length = len(self.WORD)
        self.check(length - 1, 5, told(self.WORD[-1]))
        for first in (length, length + 1, 2 ** 31, 2 ** 32, 2 ** 62, 2 ** 62 + 1, GREATEST_PLACE - 1, GREATEST_PLACE):
            self.check(first, 5, [0])
            self.check(first, 0, [0])
            self.check(first, GREATEST_W, [0])

    def test_most(self):
        length = len(self.WORD)
        self.check(0, 0, [0])
        self.check(3, 0, [0])
        self.check(0, 1, told(self.WORD[0]))
        for most in (length, length + 1, 2 ** 30, GREATEST_W - 1, GREATEST_W):
            self.check(0, most, told(self.WORD))
            self.check(2, most, told(self.WORD[2:]))

    def test_below_0(self):
        for below in (-1, -2, LEAST_W):
            self.check(0, below, [OUT_OF_RANGE])
            self.check(below, 0, [OUT_OF_RANGE])
            self.check(below, below, [OUT_OF_RANGE])
            self.check(GREATEST_PLACE, below, [OUT_OF_RANGE])
        self.check(LEAST_PLACE, 1, [OUT_OF_RANGE])
        self.check(LEAST_PLACE, GREATEST_W, [OUT_OF_RANGE])

    def test_below_0_comes_first(self):
        for ahead in (begin(), read("5"), read("4\nA"), read("4\nA\nA=AA")):
            for n in (-1, 0, 62, 64, 65, LEAST_W, GREATEST_W):
                for first, most in ((-1, 0), (0, -1), (LEAST_PLACE, 5), (5, LEAST_W), (-1, -1)):
                    with self.subTest(ahead=ahead, n=n, first=first, most=most):
                        self.assertEqual(ask_last(ahead, part(n, first, most)), [OUT_OF_RANGE])


class WordsWrittenDown(unittest.TestCase):

    def check(self, chance, first_word, rules, n, word):
        calls = []
        wanted = []
        for number in range(90):
            first = chance.randrange(len(word) + 3)
            most = chance.choice([chance.randrange(10), chance.randrange(len(word) + 3)])
            calls.append(part(n, first, most))
            wanted.append(told(word[first:first + most]))
        found = ask(read(text_of(first_word, rules)), *calls)
        self.assertIsNone(first_difference(found[1:], wanted), (first_word, rules, n))

    def test_random_ones(self):
        chance = random.Random(7)
        longest = 0
        for number in range(120):
            first_word, rules = random_system(chance, 6)
            n = chance.randrange(12)
            if ask_last(read(text_of(first_word, rules)), long(n))[0] <= 5000:
                word = word_at(n, first_word, rules)
                longest = max(longest, len(word))
                self.check(chance, first_word, rules, n, word)
        self.assertGreater(longest, 2000)

    def test_lengths_round_about_powers_of_2(self):
        chance = random.Random(8)
        rules = {"A": "B", "B": "a+c.e|gh"}
        for length in (63, 64, 65, 127, 128, 129, 255, 256, 257, 258, 511, 512, 513, 1023, 1024, 1025):
            first_word = "A" * (length // 8) + "z" * (length % 8)
            word = word_at(2, first_word, rules)
            self.assertEqual(len(word), length)
            self.check(chance, first_word, rules, 2, word)
            within = dict(rules, C=first_word, D="CyC")
            self.check(chance, "xD", within, 4, "x" + word + "y" + word)

    def test_many_times_without_growth(self):
        # 2^9 letters in 9 times, then 55 times letters that take one another's place among such as vanish.
        rules = chain(9, lambda letter: letter * 2, "xKxx")
        rules.update({"K": "xLx", "L": "xxK", "x": "y", "y": ""})
        word = word_at(64, "AB", rules)
        self.assertEqual(len(word.replace("x", "").replace("y", "")), 2 ** 9 + 2 ** 8)
        self.check(random.Random(9), "AB", rules, 64, word)

    def test_deep_brackets(self):
        rules = {"A": "[" * 127 + "+A" + "]" * 127}
        word = word_at(64, "A", rules)
        self.check(random.Random(10), "A", rules, 64, word)
        whole = ask_last(read(text_of("A", rules)), part(64, 0, GREATEST_W))
        self.assertIsNone(first_difference(whole, told(word)))


class LongWords(unittest.TestCase):

    def parts(self, text, n, length, sign_at):
        """Parts from the beginning, the middle and the end, and from places by chance."""
        chance = random.Random(11)
        places = [0, 1, length // 2 - 20, length // 2, length - 40, length - 20, length - 1, length, length + 1]
        places += [chance.randrange(length) for number in range(80)]
        found = ask(text, long(n), *[part(n, first, 40) for first in places])
        self.assertEqual(found[1], [length])
        for first, answer in zip(places, found[2:]):
            wanted = "".join(sign_at(place) for place in range(first, min(first + 40, length)))
            self.assertEqual(answer, told(wanted), first)

    def test_thue_and_morse(self):
        self.parts(read("4\nA\nA=AB\nB=BA"), 61, 2 ** 61, lambda place: "AB"[bin(place).count("1") % 2])

    def digits(self, first_word, rules):
        """Letters a to d, each grown to four; at a place stands the letter of its four-digits' sum."""
        ways = {letter: ("abcd" * 2)[k:k + 4] for k, letter in enumerate("abcd")}
        return read(text_of(first_word, dict(ways, **rules)))

    def sum_of_digits(self, place):
        total = 0
        while place > 0:
            total += place % 4
            place //= 4
        return "abcd"[total % 4]

    def test_one_below_the_limit(self):
        # The last letter of each four is one of a chain; in the end the word lacks it.
        names = string.ascii_uppercase + "wxyz"
        rules = {}
        for k in range(30):
            stands_for = 3 * (k + 1) % 4
            rules[names[k]] = ("abcd" * 2)[stands_for:stands_for + 3] + names[k + 1:k + 2]
        self.parts(self.digits("abc" + names[0], rules), 30, LIMIT - 1, self.sum_of_digits)

    def test_three_quarters_of_the_limit(self):
        self.parts(self.digits("abc", {}), 30, 3 * 2 ** 60, self.sum_of_digits)

    def test_among_letters_that_vanish(self):
        def sign_at(place):
            return "x" if place % 3 == 0 else "AB"[(bin(place // 3).count("1") + place % 3 - 1) % 2]
        self.parts(read("4\nA\nA=xAB\nB=xBA\nx="), 61, 3 * 2 ** 60, sign_at)

    def test_one_sign_in_a_long_word(self):
        calls = [read("4\nA\nA=AA"), part(61, 2 ** 61 - 1, 5), part(61, 2 ** 61, 5), part(61, 2 ** 61 - 3, GREATEST_W)]
        self.assertEqual(ask(*calls), [[1], told("A"), [0], told("AAA")])

    def test_short_word_behind_long_ones(self):
        rules = chain(30, lambda letter: letter * 4, "")
        rules["B"] = "CCC.C"
        dots = [part(32, 0, 50), part(32, 2, 50), part(32, 4, 50), part(3, 10, 4)]
        found = ask(read(text_of("A", rules)), *dots)
        self.assertEqual(found[1:], [told("...."), told(".."), [0], told("DD.D")])

    def test_as_many_as_may_be_asked(self):
        first = 2 ** 60 + 12345
        found = ask_last(read("4\nA\nA=AB\nB=BA"), part(61, first, 999990))
        self.assertEqual(found[0], 999990)
        wanted = [65 + bin(first + k).count("1") % 2 for k in range(999990)]
        self.assertIsNone(first_difference(found[1:], wanted))


if __name__ == "__main__":
    unittest.main()
