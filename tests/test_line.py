"""The interface: a line of calls in one list, answers with their counts in another."""

import unittest

from gridtalk.grids import answers
from tests.helper import ARITHMETIC, CLEAR, HALF, MINUS, PLUS, RAISE, TIMES, TOP
from tests.helper import alike, ask, dot, entry, judge, line, matrix, value

MIXED = line(matrix(2, 2, [1, 2, 3, 4]), [PLUS, TOP, 2], [ARITHMETIC, 2, 0], [TIMES, TOP, 5], [PLUS, HALF - 1, 1],
             [ARITHMETIC, 9, 9], matrix(3, 3, [1, 2]), matrix(1, 2, [5, 6]), value(50, 1, 0), [CLEAR],
             matrix(1, 1, [0]), value(54, 0, 18, 7), [ARITHMETIC, 3, 0], [MINUS, 5, 4], [RAISE, 5, 4],
             alike([0], [18, 1]), [ARITHMETIC, 1, 5], [MINUS, 3, 4], [MINUS, 5, 4], dot([1, 2], [3, 4]),
             entry(0, 0, 35, 0), judge(53, 0, 0), judge(1))

MIXED_TOLD = [1, 0, 2, 0, 1, 1, 0, 2, 0, TOP - 4, 1, -8, 1, -1, 1, -2, 1, 1, 5, 0, 1, 2, 23, 34, 1, 0,
              1, 0, 5, 0, 2, 1, 0, 7, 1, 0, 1, -4, 2, 0, 20, 4, 0, 0, 0, 0, 1, 0, 2, 0, 4, 1, -7, 2, 0, 1,
              2, 0, 1, 3, 0, 1, 2, 2, -3, 0]

# A call of each kind that is refused, over a table of one matrix, modulo 5.
REFUSED = [[ARITHMETIC, 9, 0], [ARITHMETIC, 1, 0], [ARITHMETIC, 2, 1], matrix(0, 1, []), matrix(2, 2, [1, 2, 3]),
           [PLUS, 5, 0], [MINUS, 0, 5], [TIMES, TOP, 1], [RAISE, 2, 1001], [RAISE, 5, 0], dot([1], []), dot([5], [1]),
           judge(1), judge(33, 16, 1, 2), value(50, 0), value(50, 0, 17, 3), value(48, 0, 55, 18, 5, 0),
           entry(2, 0, 0), entry(0, 0, 19), entry(0, 0, 49, 0, 18, 1), entry(0, 0, 18, 7), alike([0], [1]),
           alike([9], [0]), alike([0], [33, 16, 1, 2]), alike([0], [55, 18, 9, 0])]


class Answers(unittest.TestCase):
    def test_one_call(self):
        self.assertEqual(answers([0, 1, 5]), [1, 0])
        self.assertEqual(answers([0, 1, 0]), [1, -1])
        self.assertEqual(answers([1, 1, 2, 2, 8, 9]), [1, 0])
        self.assertEqual(answers([1, 1, 2, 0]), [1, -2])
        self.assertEqual(answers([2]), [1, 0])
        self.assertEqual(answers([3, 4, 5]), [2, 0, 9])
        self.assertEqual(answers([4, 5, 4]), [2, 0, 1])
        self.assertEqual(answers([5, 4, 5]), [2, 0, 20])
        self.assertEqual(answers([6, 2, 10]), [2, 0, 1024])
        self.assertEqual(answers([7, 2, 1, 2, 2, 3, 4]), [2, 0, 11])
        self.assertEqual(answers([7, 0, 0]), [2, 0, 0])
        self.assertEqual(answers([8, 3, 16, 2, 5]), [3, 0, 2, 5])
        self.assertEqual(answers([9, 2, 17, 2]), [7, 0, 2, 2, 1, 0, 0, 1])
        self.assertEqual(answers([10, 1, 1, 2, 17, 2]), [2, 0, 1])
        self.assertEqual(answers([10, 1, 2, 2, 17, 2]), [1, -6])
        self.assertEqual(answers([11, 2, 17, 2, 3, 16, 2, 2]), [4, 0, 0, 0, 0])
        self.assertEqual(answers([11, 2, 17, 2, 2, 17, 2]), [1, 1])
        self.assertEqual(answers([9, 0]), [2, -3, 0])

    def test_one_behind_another(self):
        self.assertEqual(answers(MIXED), MIXED_TOLD)

    def test_a_refused_matrix_is_read_to_its_end(self):
        self.assertEqual(answers([1, 0, 1, 3, 3, 4, 5, 3, 6, 7]), [1, -2, 2, 0, 13])
        self.assertEqual(answers([1, 1, 1, 600] + [2] * 600 + [3, 6, 7]), [1, -2, 2, 0, 13])

    def test_what_is_refused_is_read_to_its_end(self):
        for call in REFUSED:
            told = ask([ARITHMETIC, 1, 5], matrix(2, 2, [1, 2, 3, 4]), call, [PLUS, 4, 3])
            self.assertEqual(len(told), 4, call)
            self.assertLess(told[2][0], 0, call)
            self.assertEqual(told[3], [0, 2], call)

    def test_what_is_refused_changes_nothing(self):
        for call in REFUSED:
            told = ask([ARITHMETIC, 1, 5], matrix(2, 2, [1, 2, 3, 4]), call, call, value(48, 0, 0), judge(1),
                       matrix(1, 1, [9]), value(1), value(49, 0, 0), [ARITHMETIC, 0, 0], value(0))
            self.assertEqual(told[2], told[3], call)
            self.assertEqual(told[4:], [[0, 2, 2, 2, 4, 1, 3], [-3, 0], [1], [-7, 0], [0, 2, 2, 0, 0, 0, 0], [0],
                                        [0, 2, 2, 1, 2, 3, 4]], call)

    def test_what_is_answered_changes_nothing_either(self):
        table = [matrix(2, 2, [1, 2, 3, TOP]), matrix(2, 1, [HALF, 7])]
        for x in [0], [32, 0], [34, 5, 0], [35, 0], [36, 0], [37, 0, 1, 0, 1, 0], [48, 0, 0], [54, 0, 0], [53, 0, 1]:
            told = ask(*table, value(*x), value(*x), entry(0, 0, *x), judge(*x), alike(x, x), value(0), value(1),
                       value(*x))
            self.assertEqual(told[2], told[3])
            self.assertEqual(told[2], told[-1])
            self.assertEqual(told[7:9], [[0, 2, 2, 1, 2, 3, TOP], [0, 2, 1, HALF, 7]])

    def test_the_same_matrix_in_one_arithmetic_after_another(self):
        told = ask(matrix(1, 2, [TOP, 6]), value(48, 0, 0), [ARITHMETIC, 2, 0], value(48, 0, 0), [ARITHMETIC, 1, 7],
                   value(48, 0, 0), [ARITHMETIC, 3, 0], value(51, 0, 0), [ARITHMETIC, 4, 0], value(48, 0, 0),
                   [ARITHMETIC, 6, 0], value(48, 0, 0), [ARITHMETIC, 7, 1], value(51, 0, 0), [ARITHMETIC, 0, 0],
                   value(0))
        self.assertEqual(told[1::2], [[0, 1, 2, TOP - 1, 12], [0, 1, 2, TOP - 1, 12], [-7, 1], [0, 1, 2, TOP, 12],
                                      [0, 1, 2, TOP, 6], [0, 1, 2, 0, 0], [0, 1, 2, 0, 20], [0, 1, 2, TOP, 6]])

    def test_whole_numbers_only(self):
        told = answers(MIXED)
        self.assertIs(type(told), list)
        self.assertEqual({type(number) for number in told}, {int})

    def test_200_calls(self):
        calls = line(*[[PLUS, number, TOP] for number in range(200)])
        expected = line(*[[2, 0, (number - 1) % 2 ** 64] for number in range(200)])
        self.assertEqual(answers(calls), expected)

    def test_200_calls_that_are_all_refused(self):
        self.assertEqual(answers([ARITHMETIC, 8, 0] * 200), [1, -1] * 200)

    def test_a_line_of_nearly_16000_numbers(self):
        calls = line(*[matrix(16, 16, range(256))] * 26, *[matrix(16, 17, range(600))] * 15)
        self.assertLessEqual(len(calls), 16000)
        expected = line(*[[1, number] for number in range(16)]) + [1, -5] * 10 + [1, -2] * 15
        self.assertEqual(answers(calls), expected)


class NothingKept(unittest.TestCase):
    def test_what_is_handed_in_is_as_it_was(self):
        handed = list(MIXED)
        answers(handed)
        self.assertEqual(handed, MIXED)

    def test_the_same_list_gives_the_same(self):
        handed = list(MIXED)
        first = answers(handed)
        second = answers(handed)
        self.assertEqual(first, MIXED_TOLD)
        self.assertEqual(second, MIXED_TOLD)
        self.assertIsNot(first, second)

    def test_what_was_given_back_may_be_changed(self):
        answers(MIXED).clear()
        self.assertEqual(answers(MIXED), MIXED_TOLD)

    def test_arithmetic_and_table_are_new_each_time(self):
        answers(line([ARITHMETIC, 1, 5], *[matrix(1, 1, [1])] * 16))
        self.assertEqual(answers(line(matrix(1, 1, [1]), [PLUS, TOP, 2])), [1, 0, 2, 0, 1])


if __name__ == "__main__":
    unittest.main()
