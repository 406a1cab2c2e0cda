"""The interface: how calls and answers stand in their lists, and that nothing is changed or kept."""

import unittest

from asking import (GREATEST_PLACE, GREATEST_W, LEAST_PLACE, LEAST_W, ask, ask_numbers, begin, long, often, part,
                    picture, read, walk)
from grownwords.desk import answers


class Untouchable(list):
    """A list that tells of a change, even of one that is undone."""

    def refuse(self, *given, **named):
        raise AssertionError("the list that was handed in was changed")

    __setitem__ = __delitem__ = __iadd__ = __imul__ = refuse
    append = extend = insert = pop = remove = clear = sort = reverse = refuse


MIXED = (long(0) + walk(3) + begin() + read("4\nA\nA=AB\nB=A") + long(5) + part(3, 1, 3) + often(5, "A") + long(65)
         + walk(2) + picture(1, 0, 0, 4, 1) + part(0, -1, 0) + read("6\n[") + long(5) + part(0, 0, 0)
         + picture(0, 0, 0, 1, 1) + read("6\n++A-\n") + often(64, "A") + picture(7, -1, 0, 2, 2) + walk(64)
         + part(0, 4, 5) + picture(0, 0, 0, 0, 0) + begin() + often(0, "A"))
MIXED_ANSWERS = [1, -9, 1, -9, 1, 0, 1, 2, 1, 13, 4, 3, 66, 65, 65, 1, 8, 1, -8,
                 8, 0, 3, 0, 0, 0, 0, 3, 0, 5, 0, 1, 1, 1, 0, 1, -8, 1, -102, 1, -9, 1, -9,
                 1, -9, 1, 0, 1, 1, 5, 0, 0, 1, 1, 0, 8, 0, -1, 1, 1, -1, 0, 0, 1,
                 1, 0, 1, -8, 1, 0, 1, -9]


class Lists(unittest.TestCase):

    def test_written_out(self):
        self.assertEqual(answers([0]), [1, 0])
        self.assertEqual(answers([1, 0]), [1, -101])
        self.assertEqual(answers([1, 3, 52, 10, 65, 2, 0, 3, 0, 65]), [1, 0, 1, 1, 1, 1])
        self.assertEqual(answers([2, 0]), [1, -9])
        self.assertEqual(answers([3, 0, 65]), [1, -9])
        self.assertEqual(answers([4, 0, 0, 1]), [1, -9])
        self.assertEqual(answers([5, 0]), [1, -9])
        self.assertEqual(answers([6, 0, 0, 0, 1, 1]), [1, -9])
        self.assertEqual(answers([1, 3, 52, 10, 65, 4, 0, 0, 1]), [1, 0, 2, 1, 65])
        self.assertEqual(answers([1, 3, 52, 10, 65, 5, 0]), [1, 0, 8, 0, 1, 0, 0, 0, 0, 1, 0])
        self.assertEqual(answers([1, 3, 52, 10, 65, 6, 0, 0, 0, 1, 2]), [1, 0, 3, 0, 1, 0])

    def test_several_calls_in_order(self):
        self.assertEqual(answers(list(MIXED)), MIXED_ANSWERS)

    def test_numbers_that_look_like_calls(self):
        self.assertEqual(ask_numbers(read([0, 1, 2, 3]), long(1), often(3, 2), begin()), [-101, -9, -9, 0])
        self.assertEqual(ask_numbers(read("4\nA"), long(3), often(2, 3), often(3, 2), long(0)), [0, 1, 0, 0, 1])
        calls = [read("4\nA"), part(6, 5, 4), walk(4), picture(5, 6, 4, 3, 2), part(1, 0, 2), walk(6)]
        wanted = [[0], [0], [0, 1, 0, 0, 0, 0, 1, 0], [0] * 7, [1, 65], [0, 1, 0, 0, 0, 0, 1, 0]]
        self.assertEqual(ask(*calls), wanted)

    def test_numbers_at_the_ends_of_their_ranges(self):
        calls = [read("4\nA"), long(LEAST_W), often(GREATEST_W, 4294967295),
                 part(GREATEST_W, GREATEST_PLACE, GREATEST_W), part(LEAST_W, LEAST_PLACE, LEAST_W), walk(LEAST_W),
                 picture(0, LEAST_PLACE, GREATEST_PLACE, 1, 1),
                 picture(GREATEST_W, GREATEST_PLACE, LEAST_PLACE, GREATEST_W, LEAST_W),
                 part(0, GREATEST_PLACE, GREATEST_W)]
        self.assertEqual(ask(*calls), [[0], [-8], [-8], [-8], [-8], [-8], [0, 0], [-8], [0]])

    def test_whole_numbers(self):
        told = answers(list(MIXED))
        self.assertIs(type(told), list)
        self.assertEqual({type(number) for number in told}, {int})

    def test_a_hundred_calls(self):
        calls = read("4\nA\nA=AA") + [number for n in range(99) for number in long(n)]
        wanted = [1] + [2 ** n if n < 62 else -6 if n < 65 else -8 for n in range(99)]
        self.assertEqual(answers(calls), [number for answer in wanted for number in (1, answer)])

    def test_a_hundred_calls_of_all_kinds(self):
        text = read("6\nA\nA=A+b\nb=[.A]")
        seven = [begin(), text, long(5), often(5, "."), part(4, 3, 5), walk(6), picture(3, -2, -2, 4, 4)]
        alone = [answers(text + call) for call in seven]
        wanted = []
        for told in alone[2:]:
            wanted += told[2:]
        wanted = [1, 0, 1, 2] + wanted
        calls = [number for call in seven for number in call]
        self.assertEqual(answers(calls * 14 + begin() + long(0)), wanted * 14 + [1, 0, 1, -9])

    def test_as_many_answers_as_may_be(self):
        calls = read("4\nA\nA=AB\nB=BA") + part(61, 7, 400000) + picture(2, 0, 0, 1000, 599) + walk(61) + long(0)
        told = answers(calls)
        self.assertLessEqual(len(told), 1000000)
        self.assertEqual(told[:4], [1, 2, 400001, 400000])
        self.assertEqual(told[400004:400012], [599001, 0, 1, 1, 1, 1, 1, 0])
        self.assertEqual(told[-11:], [8, 0, 2 ** 61, 0, 0, 0, 0, 2 ** 61, 0, 1, 1])

    def test_longest_list(self):
        text = "4\n" + "A" * 256 + "".join("\n" + letter + "=" + "Ab+-" * 64 for letter in "ABCDEFGHIJKLMN")
        calls = read(text) * 4
        calls += long(5) * 90
        self.assertLessEqual(len(calls), 16000)
        # Each A becomes 64 A and 192 signs that stay.
        wanted = 256 * (64 ** 5 + 192 * sum(64 ** k for k in range(5)))
        self.assertEqual(answers(calls), [1, 14] * 4 + [1, wanted] * 90)


class NothingChangedOrKept(unittest.TestCase):

    def test_the_list_is_as_it_was(self):
        calls = list(MIXED)
        answers(calls)
        self.assertEqual(calls, MIXED)

    def test_the_list_is_not_changed_for_a_while_either(self):
        self.assertEqual(answers(Untouchable(MIXED)), MIXED_ANSWERS)

    def test_the_same_list_twice(self):
        calls = list(MIXED)
        self.assertEqual(answers(calls), answers(calls))

    def test_a_changed_answer_does_no_harm(self):
        first = answers(list(MIXED))
        first.clear()
        self.assertEqual(answers(list(MIXED)), MIXED_ANSWERS)

    def test_no_rules_are_kept(self):
        self.assertEqual(ask_numbers(read("4\nA\nA=AA"), long(3)), [1, 8])
        self.assertEqual(ask_numbers(long(3), often(3, "A")), [-9, -9])
        self.assertEqual(ask_numbers(part(3, 0, 1), walk(3), picture(3, 0, 0, 1, 1)), [-9, -9, -9])
        self.assertEqual(ask_numbers(read("4\nA"), long(3)), [0, 1])


if __name__ == "__main__":
    unittest.main()
