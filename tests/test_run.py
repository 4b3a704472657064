"""The document's own run, number by number, and each of its ways to get it wrong."""

import unittest

from gridtalk.grids import answers
from tests.helper import HALF, TOP, alike, apart, entry, judge, line, matrix, told_with, value

SQUARE = (2, 2, [1, 2, 3, 4])

RUN = [
    (matrix(*SQUARE), [0]),
    (value(50, 0, 0), [0, 2, 2, 7, 10, 15, 22]),
    (value(36, 0), [0, 1, 1, 18446744073709551614]),
    ([0, 2, 0], [0]),
    (value(36, 0), [0, 1, 1, 18446744073709551614]),
    (value(18, 9223372036854775807), [0, 1, 1, 9223372036854775807]),
    (value(48, 18, 9223372036854775807, 18, 1), [-8, 0]),
    (entry(0, 1, 32, 0), [0, 3]),
    (judge(50, 0, 16, 3, 1), [-4, 0]),
    (judge(50, 0), [-3, 2]),
    (judge(17, 1, 5), [-3, 2]),
    (alike([34, 2, 0], [50, 0, 0]), [1]),
    (alike([0], [32, 0]), [0, 0, 0, 1]),
    ([0, 3, 0], [0]),
    (value(35, 0), [0, 2, 2, 0, 2, 3, 0]),
    (value(36, 0), [-4, 0]),
    ([0, 1, 3], [0]),
    (value(0), [-7, 0]),
    (value(37, 0, 1, 0, 1, 0), [-7, 5]),
]


class Run(unittest.TestCase):
    def test_each_answer(self):
        told = apart(answers(line(*[call for call, due in RUN])))
        for number, ((call, due), answer) in enumerate(zip(RUN, told, strict=True)):
            self.assertEqual(answer, due, f"call {number}: {call}")

    def test_the_list_as_it_is_given_back(self):
        due = line(*[[len(answer)] + answer for call, answer in RUN])
        self.assertEqual(answers(line(*[call for call, answer in RUN])), due)


class WaysToGetItWrong(unittest.TestCase):
    def one(self, kind, modulus, table, call, due):
        self.assertEqual(told_with(kind, modulus, table, call), [due])

    def test_sums_refused_on_the_way(self):
        quarter = 2 ** 62
        row = (1, 3, [quarter, quarter, TOP + 1 - quarter])
        self.one(2, 0, [row, (3, 1, [1, 1, 1])], value(50, 0, 1), [0, 1, 1, quarter])
        self.one(2, 0, [(3, 3, [quarter, 0, 0, 0, quarter, 0, 0, 0, TOP + 1 - quarter])], value(33, 0),
                 [0, 1, 1, quarter])

    def test_ways_that_wrap(self):
        self.one(3, 0, [(1, 2, [TOP - 1, TOP])], value(50, 0, 32, 0), [0, 1, 1, TOP])
        self.one(3, 0, [(1, 2, [TOP - 1, 5])], value(55, 18, 3, 0), [0, 1, 2, TOP, 8])

    def test_a_closure_that_counts_twice(self):
        # S3 is 1 + x + x x; by squares it would be (1 + x)(1 + x).
        self.one(0, 0, [(3, 3, [2, 0, 0, 0, 2, 0, 0, 0, 2])], value(35, 0), [0, 3, 3, 7, 0, 0, 0, 7, 0, 0, 0, 7])
        self.one(0, 0, [(4, 4, [1] * 16)], value(35, 0), [0, 4, 4, *(22 if i % 5 == 0 else 21 for i in range(16))])
        self.one(6, 0, [(3, 3, [0, TOP, 0, 0, 0, TOP, 0, 0, 0])], value(35, 0), [0, 3, 3, *[TOP] * 3, 0, TOP, TOP, 0,
                                                                                0, TOP])

    def test_the_power_0(self):
        ones = {0: (1, 0), 1: (1, 0), 2: (1, 0), 3: (0, TOP), 4: (TOP, 0), 5: (TOP, 0), 6: (TOP, 0), 7: (1, 0)}
        for kind, (one, none) in ones.items():
            with self.subTest(kind=kind):
                self.one(kind, 7 if kind in (1, 7) else 0, [SQUARE], value(34, 0, 0), [0, 2, 2, one, none, none, one])

    def test_a_determinant_by_dividing(self):
        # Modulo 6 none of 2, 3 and 4 can be divided by.
        self.one(1, 6, [(3, 3, [2, 3, 4, 4, 2, 3, 3, 4, 2])], value(36, 0), [0, 1, 1, 3])
        self.one(1, 4, [(2, 2, [2, 1, 1, 2])], value(36, 0), [0, 1, 1, 3])
        self.one(0, 0, [(2, 2, [2, 1, 4, 2 ** 63])], value(36, 0), [0, 1, 1, TOP - 3])

    def test_the_value_that_was_worked_out_first(self):
        broken = [48, 18, HALF - 1, 18, 1]
        self.one(2, 0, [], value(48, *broken, *broken), [-8, 1])
        self.one(2, 0, [], value(48, 32, 32, 32, *broken, *broken), [-8, 4])
        self.one(2, 0, [], value(48, *broken, 32, 32, 32, *broken), [-8, 1])

    def test_a_fault_of_form_told_at_the_operation(self):
        self.one(0, 0, [SQUARE], judge(50, 0), [-3, 2])
        self.one(0, 0, [SQUARE], judge(50, 0, 19), [-3, 2])
        self.one(0, 0, [SQUARE], judge(32, 1), [-3, 1])

    def test_a_matrix_that_is_not_used(self):
        self.one(1, 5, [(1, 1, [9]), (1, 1, [4]), (1, 1, [5])], value(1), [0, 1, 1, 4])

    def test_blocks_the_other_way_round(self):
        self.one(0, 0, [SQUARE, (1, 2, [5, 7])], value(52, 0, 1), [0, 2, 4, 5, 7, 10, 14, 15, 21, 20, 28])
        self.one(0, 0, [SQUARE, (1, 2, [5, 7])], value(52, 1, 0), [0, 2, 4, 5, 10, 7, 14, 15, 20, 21, 28])

    def test_a_number_behind_it(self):
        self.one(0, 0, [SQUARE], value(0, 0), [-3, 1])
        self.one(0, 0, [SQUARE], value(50, 0, 0, 0), [-3, 3])

    def test_a_part_that_a_cut_leaves_out(self):
        self.one(1, 4, [SQUARE], value(37, 0, 1, 0, 2, 0), [-7, 5])
        self.one(1, 4, [SQUARE, (1, 2, [0, 1])], value(37, 0, 1, 0, 2, 54, 1, 0), [-7, 7])

    def test_values_before_the_sizes_of_the_second(self):
        broken = [48, 18, HALF - 1, 18, 1]
        self.one(2, 0, [SQUARE], alike(broken, [50, 0, 18, 1]), [-20, 0])
        self.one(2, 0, [SQUARE], alike(broken, [0]), [0, 1, 1, 1])
        self.one(1, 2, [SQUARE], alike([0], [33, 16, 1, 2]), [-20, 0])
        self.one(1, 2, [SQUARE], alike([0], [18, 1]), [0, 1, 2, 2])


if __name__ == "__main__":
    unittest.main()
