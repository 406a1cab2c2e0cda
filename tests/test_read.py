"""Points 1, 2 and 3: begin, what a text is, and read."""

import string
import unittest

from asking import NO_RULES, ask_numbers, begin, long, often, read, read_answer

LETTERS = string.ascii_uppercase + string.ascii_lowercase
SIGNS = LETTERS + ".+-|[]"


class Begin(unittest.TestCase):

    def test_answers_0(self):
        self.assertEqual(ask_numbers(begin(), begin()), [0, 0])

    def test_no_rules_behind_it(self):
        self.assertEqual(ask_numbers(begin(), long(0), often(0, "A")), [0, NO_RULES, NO_RULES])

    def test_a_new_object_is_as_behind_begin(self):
        self.assertEqual(ask_numbers(long(0), often(0, "A")), [NO_RULES, NO_RULES])

    def test_takes_away_what_was_read(self):
        calls = [read("4\nAB\nA=B"), long(0), begin(), long(0), often(0, "A"), read("4\nA"), long(0)]
        self.assertEqual(ask_numbers(*calls), [1, 2, 0, NO_RULES, NO_RULES, 0, 1])


class GoodTexts(unittest.TestCase):

    def test_how_many_rules(self):
        self.assertEqual(read_answer("4\nAB"), 0)
        self.assertEqual(read_answer("4\nAB\nA=AB"), 1)
        self.assertEqual(read_answer("4\nAB\nA=AB\nB=A\nz=[+A].|-"), 3)

    def test_every_letter_may_have_a_rule(self):
        lines = ["4", "A"] + [letter + "=" + letter for letter in LETTERS]
        self.assertEqual(read_answer("\n".join(lines)), 52)

    def test_last_line_with_its_end_and_without(self):
        for lines, rules in (("4\nAB", 0), ("4\nAB\nA=AB", 1), ("6\nAB\nA=", 1)):
            with self.subTest(lines=lines):
                self.assertEqual(read_answer(lines), rules)
                self.assertEqual(read_answer(lines + "\n"), rules)

    def test_4_and_6_directions(self):
        self.assertEqual(read_answer("4\nA\n"), 0)
        self.assertEqual(read_answer("6\nA\n"), 0)

    def test_empty_words(self):
        self.assertEqual(ask_numbers(read("4\n\n"), long(0), long(64)), [0, 0, 0])
        self.assertEqual(ask_numbers(read("4\n\nA=B"), long(0), long(64)), [1, 0, 0])
        self.assertEqual(ask_numbers(read("4\nAb\nA="), long(0), long(1)), [1, 2, 1])

    def test_every_sign(self):
        self.assertEqual(ask_numbers(read("4\n" + SIGNS), long(0)), [0, 58])
        self.assertEqual(read_answer("4\nA\nA=" + SIGNS), 1)

    def test_longest_words(self):
        self.assertEqual(ask_numbers(read("4\n" + "A" * 256), long(0)), [0, 256])
        self.assertEqual(ask_numbers(read("4\nA\nA=" + "B" * 256), long(1)), [1, 256])

    def test_deepest_brackets(self):
        deep = "[" * 128 + "]" * 128
        self.assertEqual(ask_numbers(read("4\n" + deep), long(0)), [0, 256])
        self.assertEqual(ask_numbers(read("4\nA\nA=" + deep), long(1)), [1, 256])
        self.assertEqual(read_answer("4\n[][[]A[]]"), 0)

    def test_longest_text(self):
        lines = ["4", "A"] + [letter + "=" + "A" * 256 for letter in LETTERS[:15]]
        text = "\n".join(lines) + "\n"
        text += "z=" + "b" * (4096 - len(text) - 2)
        self.assertEqual(len(text), 4096)
        self.assertEqual(read_answer(text), 16)


class WrongTexts(unittest.TestCase):

    def refused(self, line, *texts):
        for text in texts:
            with self.subTest(text=text):
                self.assertEqual(read_answer(text), -100 - line)

    def test_empty_text(self):
        self.refused(1, "")

    def test_wrong_first_line(self):
        self.refused(1, "\n", "\n4\nA", "5\nA", "44\nA", "46\nA", "04\nA", "4 \nA", " 4\nA", "4\r\nA", "-4\nA", "A\nA")
        self.refused(1, [4, 10, 65], [6, 10, 65], [0], [255, 10, 65], "0\nA", "2\nA", "8\nA")

    def test_wrong_first_line_alone(self):
        self.refused(1, "5", "A", "4A")

    def test_missing_second_line(self):
        self.refused(2, "4", "6", "4\n", "6\n")

    def test_wrong_first_word(self):
        self.refused(2, "4\nA=B", "4\nA B", "4\n1", "4\n*", "4\nA\r\n", "4\n/", "4\n\\", "4\n(", "4\n,")

    def test_signs_that_are_none(self):
        for byte in range(256):
            if byte == 10:
                continue
            wanted = byte not in [ord(sign) for sign in SIGNS] or byte in (ord("["), ord("]"))
            with self.subTest(byte=byte):
                self.assertEqual(read_answer([52, 10, 65, byte]), -102 if wanted else 0)
                self.assertEqual(read_answer([52, 10, 65, 10, 65, 61, byte]), -103 if wanted else 1)

    def test_too_long_words(self):
        self.refused(2, "4\n" + "A" * 257, "4\n" + "A" * 257 + "\n", "4\n" + "[" * 129 + "]" * 129)
        self.refused(3, "4\nA\nA=" + "A" * 257, "4\nA\nA=" + "A" * 4000)

    def test_wrong_brackets(self):
        for word in ("[", "]", "][", "[]]", "[[]", "A]", "[A", "[]][", "]" * 256, "[" * 256, "[" * 128 + "]" * 127):
            self.refused(2, "4\n" + word, "4\n" + word + "\n")
            self.refused(3, "4\nA\nA=" + word)

    def test_brackets_close_within_their_own_word(self):
        self.refused(3, "4\nAB\nA=[\nB=]")

    def test_no_rule(self):
        self.refused(3, "4\nA\nA", "4\nA\n=", "4\nA\n=A", "4\nA\nAB", "4\nA\nAB=A", "4\nA\nA =A", "4\nA\n A=A",
                     "4\nA\nA= A", "4\nA\nA==A", "4\nA\n+=A", "4\nA\n[=A", "4\nA\n1=A", "4\nA\nA:A", "4\nA\nA=A\r\n")

    def test_letters_neighbours_have_no_rule(self):
        self.refused(3, "4\nA\n@=A", "4\nA\n[=A", "4\nA\n`=A", "4\nA\n{=A")

    def test_empty_line_among_the_rules(self):
        self.refused(3, "4\nA\n\n", "4\nA\n\nA=B")
        self.refused(4, "4\nA\nA=B\n\n", "4\nA\nA=B\n\nB=A")

    def test_letter_with_two_rules(self):
        self.refused(4, "4\nA\nA=B\nA=B", "4\nA\nA=B\nA=")
        self.refused(5, "4\nA\nA=B\nB=A\nA=AB\nB=", "4\nA\na=\nA=\na=")
        self.assertEqual(read_answer("4\nA\nA=B\na=B"), 2)

    def test_first_wrong_line_is_told(self):
        self.refused(1, "5", "5\n[\n?", "5\nA\nA")
        self.refused(2, "4\n[\n?\n?")
        self.refused(3, "4\nA\n?\nA=[", "4\nA\nA=]\nA=A")
        self.refused(4, "4\nA\nA=B\nA=C\n?", "4\nA\nA=A\n?\nA=B")
        lines = ["4", "A"] + [letter + "=" for letter in LETTERS] + ["Q="]
        self.refused(55, "\n".join(lines), "\n".join(lines) + "\n?")

    def test_many_lines(self):
        self.refused(1, "\n" * 4096)
        self.refused(3, "4\n" + "\n" * 4094)


class ReadAgain(unittest.TestCase):

    def test_takes_the_first_ones_place(self):
        calls = [read("4\nAAA\nA=AB"), long(1), read("6\nB"), long(1), often(1, "A"), often(1, "B")]
        self.assertEqual(ask_numbers(*calls), [1, 6, 0, 1, 0, 1])

    def test_rules_of_the_first_are_gone(self):
        calls = [read("4\nA\nA=AA"), long(3), read("4\nA\nB=BB"), long(3)]
        self.assertEqual(ask_numbers(*calls), [1, 8, 1, 1])

    def test_refused_read_leaves_no_rules(self):
        for text, told in (("", -101), ("4", -102), ("4\nA\nA", -103), ("4\nA\nA=B\nA=B", -104)):
            with self.subTest(text=text):
                calls = [read("4\nA\nA=AA"), long(3), read(text), long(3), often(0, "A"), long(65)]
                self.assertEqual(ask_numbers(*calls), [1, 8, told, NO_RULES, NO_RULES, NO_RULES])

    def test_good_read_behind_a_refused_one(self):
        self.assertEqual(ask_numbers(read("?"), read("4\nAB"), long(0)), [-101, 0, 2])


if __name__ == "__main__":
    unittest.main()
