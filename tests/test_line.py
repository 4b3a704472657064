"""The interface: a line of calls in one list, answers with their counts in another."""

import unittest

from gridtalk.grids import answers
from tests.helper import ARITHMETIC, CLEAR, HALF, MINUS, PLUS, TIMES, TOP, line, matrix

MIXED = line(matrix(2, 2, [1, 2, 3, 4]), [PLUS, TOP, 2], [ARITHMETIC, 2, 0], [TIMES, TOP, 5], [PLUS, HALF - 1, 1],
             [ARITHMETIC, 9, 9], matrix(3, 3, [1, 2]), matrix(1, 2, [5, 6]), [CLEAR], matrix(1, 1, [0]),
             [ARITHMETIC, 3, 0], [MINUS, 5, 4], [ARITHMETIC, 1, 5], [MINUS, 3, 4], [MINUS, 5, 4])

MIXED_TOLD = [1, 0, 2, 0, 1, 1, 0, 2, 0, TOP - 4, 1, -8, 1, -1, 1, -2, 1, 1, 1, 0, 1, 0,
              1, 0, 1, -4, 1, 0, 2, 0, 4, 1, -7]


class Answers(unittest.TestCase):
    def test_one_call(self):
        self.assertEqual(answers([0, 1, 5]), [1, 0])
        self.assertEqual(answers([0, 1, 0]), [1, -1])
        self.assertEqual(answers([1, 1, 2, 2, 8, 9]), [1, 0])
        self.assertEqual(answers([1, 1, 2, 0]), [1, -2])
        self.assertEqual(answers([2]), [1, 0])
        self.assertEqual(answers([3, 4, 5]), [2, 0, 9])
        self.assertEqual(answers([4, 5, 4]), [2, 0, 1])
        self.assertEqual(answers([5, 4, 5]), [2, 0, 20])

    def test_one_behind_another(self):
        self.assertEqual(answers(MIXED), MIXED_TOLD)

    def test_a_refused_matrix_is_read_to_its_end(self):
        self.assertEqual(answers([1, 0, 1, 3, 3, 4, 5, 3, 6, 7]), [1, -2, 2, 0, 13])
        self.assertEqual(answers([1, 1, 1, 600] + [2] * 600 + [3, 6, 7]), [1, -2, 2, 0, 13])

    def test_whole_numbers_only(self):
        told = answers(MIXED)
        self.assertIs(type(told), list)
        self.assertEqual({type(number) for number in told}, {int})

    def test_200_calls(self):
        calls = line(*[[PLUS, number, TOP] for number in range(200)])
        expected = line(*[[2, 0, (number - 1) % 2 ** 64] for number in range(200)])
        self.assertEqual(answers(calls), expected)

    def test_200_calls_that_are_all_refused(self):
        self.assertEqual(answers([ARITHMETIC, 8, 0] * 200), [1, -1] * 200)

    def test_a_line_of_nearly_16000_numbers(self):
        calls = line(*[matrix(16, 16, range(256))] * 26, *[matrix(16, 17, range(600))] * 15)
        self.assertLessEqual(len(calls), 16000)
        expected = line(*[[1, number] for number in range(16)]) + [1, -5] * 10 + [1, -2] * 15
        self.assertEqual(answers(calls), expected)


class NothingKept(unittest.TestCase):
    def test_what_is_handed_in_is_as_it_was(self):
        handed = list(MIXED)
        answers(handed)
        self.assertEqual(handed, MIXED)

    def test_the_same_list_gives_the_same(self):
        handed = list(MIXED)
        first = answers(handed)
        second = answers(handed)
        self.assertEqual(first, MIXED_TOLD)
        self.assertEqual(second, MIXED_TOLD)
        self.assertIsNot(first, second)

    def test_what_was_given_back_may_be_changed(self):
        answers(MIXED).clear()
        self.assertEqual(answers(MIXED), MIXED_TOLD)

    def test_arithmetic_and_table_are_new_each_time(self):
        answers(line([ARITHMETIC, 1, 5], *[matrix(1, 1, [1])] * 16))
        self.assertEqual(answers(line(matrix(1, 1, [1]), [PLUS, TOP, 2])), [1, 0, 2, 0, 1])


if __name__ == "__main__":
    unittest.main()
