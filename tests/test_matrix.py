"""The calls matrix and clear."""

import unittest

from tests.helper import ARITHMETIC, CLEAR, HALF, TOP, ask, matrix

SMALL = matrix(1, 1, [7])


class Numbers(unittest.TestCase):
    def test_they_count_from_0(self):
        self.assertEqual(ask(SMALL, matrix(2, 2, [1, 2, 3, 4]), matrix(1, 3, [5, 6, 7])), [[0], [1], [2]])

    def test_sixteen_and_no_more(self):
        told = ask(*[SMALL] * 18)
        self.assertEqual(told, [[number] for number in range(16)] + [[-5], [-5]])

    def test_all_sizes_from_1_to_16(self):
        for rows in range(1, 17):
            for columns in range(1, 17):
                self.assertEqual(ask(matrix(rows, columns, range(rows * columns))), [[0]])

    def test_any_word_may_be_an_entry_in_any_arithmetic(self):
        told = ask([ARITHMETIC, 1, 3], matrix(1, 5, [3, 4, HALF - 1, HALF, TOP]),
                   [ARITHMETIC, 2, 0], matrix(1, 2, [HALF, TOP]))
        self.assertEqual(told, [[0], [0], [0], [1]])


class NoMatrix(unittest.TestCase):
    def refused(self, rows, columns, entries):
        self.assertEqual(ask(matrix(rows, columns, entries), SMALL), [[-2], [0]])

    def test_sides_of_0(self):
        self.refused(0, 1, [])
        self.refused(1, 0, [])
        self.refused(0, 0, [])
        self.refused(0, TOP, [])
        self.refused(0, 1, [1])

    def test_sides_of_17_and_above(self):
        self.refused(17, 1, range(17))
        self.refused(1, 17, range(17))
        self.refused(17, 16, range(17 * 16))
        self.refused(16, 17, range(17 * 16))
        self.refused(17, 17, range(17 * 17))
        self.refused(1, 600, range(600))
        self.refused(TOP, 1, [1])
        self.refused(1, TOP, [1])
        self.refused(TOP, TOP, [1])
        self.refused(2 ** 32, 2 ** 32, [])

    def test_a_list_of_another_length(self):
        self.refused(2, 2, [1, 2, 3])
        self.refused(2, 2, [1, 2, 3, 4, 5])
        self.refused(2, 3, [1, 2, 3, 4, 5])
        self.refused(1, 1, [])
        self.refused(1, 1, [1, 2])
        self.refused(16, 16, range(255))
        self.refused(16, 16, range(257))
        self.refused(16, 16, range(600))

    def test_of_both_refusals_the_nearest_to_0(self):
        told = ask(*[SMALL] * 16, matrix(17, 1, range(17)), matrix(2, 2, [1]), matrix(0, 0, []), SMALL)
        self.assertEqual(told[16:], [[-2], [-2], [-2], [-5]])


class Clear(unittest.TestCase):
    def test_of_an_empty_table(self):
        self.assertEqual(ask([CLEAR], [CLEAR], SMALL), [[0], [0], [0]])

    def test_the_next_number_is_0_again(self):
        self.assertEqual(ask(SMALL, SMALL, [CLEAR], SMALL, SMALL), [[0], [1], [0], [0], [1]])

    def test_of_a_full_table(self):
        told = ask(*[SMALL] * 17, [CLEAR], *[SMALL] * 17)
        once = [[number] for number in range(16)] + [[-5]]
        self.assertEqual(told, once + [[0]] + once)


if __name__ == "__main__":
    unittest.main()
