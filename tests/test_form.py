"""The form of an expression, and the place of its faults."""

import unittest

from tests.helper import ARITHMETIC, CLEAR, TOP, alike, ask, entry, judge, matrix, plain_with, told_with, value

TABLE = [(2, 2, [1, 2, 3, 4]), (1, 2, [5, 6])]

# One of each operation, as it asks, over the table.
WHOLE = [[0], [1], [16, 2, 3], [17, 2], [18, 7], [32, 1], [33, 0], [34, 3, 0], [35, 0], [36, 0], [37, 0, 1, 1, 1, 0],
         [48, 0, 0], [49, 0, 0], [50, 1, 0], [51, 0, 0], [52, 0, 1], [53, 0, 0], [54, 0, 1], [55, 18, 2, 0],
         [48, 50, 0, 17, 2, 54, 37, 0, 1, 0, 2, 0, 34, 2, 18, 1]]


class Form(unittest.TestCase):
    def judged(self, *x):
        return told_with(0, 0, TABLE, judge(*x))[0]

    def test_the_same_of_judge_value_entry_and_alike(self):
        for x, place in ([], 0), ([19], 0), ([50, 0], 2), ([0, 5], 1), ([32, 2], 1), ([16, 1], 2), ([9] * 513, 512):
            told = told_with(0, 0, TABLE, judge(*x), value(*x), entry(0, 0, *x), alike(x, [0]), alike([0], x),
                             alike(x, x))
            self.assertEqual(told, [[-3, place]] * 4 + [[-19, place], [-3, place]], x)

    def test_an_empty_list(self):
        self.assertEqual(self.judged(), [-3, 0])
        self.assertEqual(ask(judge()), [[-3, 0]])

    def test_the_end_at_each_place(self):
        for x in WHOLE[:-1]:
            self.assertEqual(self.judged(*x)[0], 0, x)
            for end in range(len(x)):
                self.assertEqual(self.judged(*x[:end]), [-3, end], x[:end])
        for end in range(len(WHOLE[-1])):
            self.assertEqual(self.judged(*WHOLE[-1][:end]), [-3, end])

    def test_a_number_behind_it(self):
        for x in WHOLE:
            for behind in ([0], [5], [19], [TOP], [32, 0], [0] * 20):
                self.assertEqual(self.judged(*x, *behind), [-3, len(x)], x)

    def test_numbers_that_begin_no_operand(self):
        for number in [*range(2, 16), *range(19, 32), *range(38, 48), *range(56, 70), 255, 2 ** 32, 2 ** 32 + 50, TOP]:
            with self.subTest(number=number):
                self.assertEqual(self.judged(number), [-3, 0])
                self.assertEqual(self.judged(number, 0), [-3, 0])
                self.assertEqual(self.judged(32, number), [-3, 1])
                self.assertEqual(self.judged(34, 2, number), [-3, 2])
                self.assertEqual(self.judged(37, 0, 1, 0, 1, number), [-3, 5])
                self.assertEqual(self.judged(48, number, 0), [-3, 1])
                self.assertEqual(self.judged(48, 0, number), [-3, 2])
                self.assertEqual(self.judged(53, 16, 1, 2, number, number), [-3, 4])

    def test_its_numbers_may_be_any(self):
        for number in (0, 1, 5, 19, 40, 50, TOP):
            self.assertNotEqual(self.judged(18, number)[0], -3)
            self.assertNotEqual(self.judged(17, number)[0], -3)
            self.assertNotEqual(self.judged(16, number, number)[0], -3)
            self.assertNotEqual(self.judged(34, number, 0)[0], -3)
            self.assertNotEqual(self.judged(37, number, number, number, number, 0)[0], -3)

    def test_the_first_of_several(self):
        self.assertEqual(self.judged(48, 19, 20), [-3, 1])
        self.assertEqual(self.judged(48, 0, 20, 5), [-3, 2])
        self.assertEqual(self.judged(48, 19), [-3, 1])
        self.assertEqual(self.judged(32, 0, 19, 19), [-3, 2])

    def test_form_comes_ahead_of_what_is_asked(self):
        self.assertEqual(self.judged(48, 16, 0, 0, 19), [-3, 4])
        self.assertEqual(self.judged(33, 1, 1), [-3, 2])
        self.assertEqual(self.judged(50, 1, 1, 1), [-3, 3])
        self.assertEqual(self.judged(17, 0, 0), [-3, 2])


class Tables(unittest.TestCase):
    def test_a_matrix_that_the_table_has_not(self):
        small = matrix(1, 1, [7])
        for count in range(17):
            told = ask(*[small] * count, *[judge(number) for number in range(17)])[count:]
            self.assertEqual(told, [[0, 1, 1] if number < count else [-3, 0] for number in range(16)]
                             + [[-3, 1]])

    def test_no_more_behind_clear(self):
        told = ask(matrix(1, 1, [7]), judge(0), [CLEAR], judge(0), judge(32, 0), matrix(2, 1, [7, 8]), judge(0))
        self.assertEqual(told, [[0], [0, 1, 1], [0], [-3, 0], [-3, 1], [0], [0, 2, 1]])

    def test_a_refused_matrix_is_not_there(self):
        self.assertEqual(ask(matrix(2, 1, [7]), judge(0), [ARITHMETIC, 3, 0], judge(0)),
                         [[-2], [-3, 0], [0], [-3, 0]])


class InOneAnother(unittest.TestCase):
    def judged(self, *x):
        return ask(judge(*x))[0]

    def test_32_with_one_operand(self):
        self.assertEqual(self.judged(*[32] * 32, 17, 2), [0, 2, 2])
        self.assertEqual(self.judged(*[32] * 33, 17, 2), [-3, 32])
        self.assertEqual(self.judged(*[32] * 200, 17, 2), [-3, 32])
        self.assertEqual(self.judged(*[34, 1] * 32, 17, 2), [0, 2, 2])
        self.assertEqual(self.judged(*[34, 1] * 33, 17, 2), [-3, 64])
        self.assertEqual(self.judged(*[37, 0, 1, 0, 1] * 32, 18, 5), [0, 1, 1])
        self.assertEqual(self.judged(*[37, 0, 1, 0, 1] * 33, 18, 5), [-3, 160])

    def test_each_operation_may_be_the_33rd(self):
        for number in [*range(32, 38), *range(48, 56)]:
            self.assertEqual(self.judged(*[32] * 32, number, 1, 1, 1, 1, 17, 1, 17, 1), [-3, 32])

    def test_what_has_no_operands_is_no_operation(self):
        for leaf in ([16, 1, 1], [17, 1], [18, 5]):
            self.assertEqual(self.judged(*[32] * 32, *leaf), [0, 1, 1])
        self.assertEqual(ask(matrix(1, 1, [5]), judge(*[32] * 32, 0)), [[0], [0, 1, 1]])

    def test_32_in_first_operands(self):
        self.assertEqual(self.judged(*[48] * 32, *[18, 1] * 33), [0, 1, 1])
        self.assertEqual(self.judged(*[48] * 33, *[18, 1] * 34), [-3, 32])

    def test_32_in_second_operands(self):
        self.assertEqual(self.judged(*[48, 18, 1] * 32, 18, 1), [0, 1, 1])
        self.assertEqual(self.judged(*[48, 18, 1] * 33, 18, 1), [-3, 96])

    def test_those_that_are_done_do_not_count(self):
        deep = [32] * 31 + [17, 1]
        self.assertEqual(self.judged(48, *deep, *deep), [0, 1, 1])
        self.assertEqual(self.judged(48, *deep, 32, *deep), [-3, 65])
        self.assertEqual(self.judged(48, 32, *deep, *deep), [-3, 32])
        row = [48, 32, 18, 1] * 31 + [18, 1]
        self.assertEqual(self.judged(*row), [0, 1, 1])

    def test_the_33rd_ahead_of_the_end(self):
        self.assertEqual(self.judged(*[32] * 32), [-3, 32])
        self.assertEqual(self.judged(*[32] * 33), [-3, 32])
        self.assertEqual(self.judged(*[48] * 40), [-3, 32])


class Long(unittest.TestCase):
    def judged(self, *x):
        return ask(judge(*x))[0]

    def sum_of(self, count):
        """A sum of so many ones, with no more than 32 operations in one another."""
        if count == 1:
            return [18, 1]
        return [48] + self.sum_of(count // 2) + self.sum_of(count - count // 2)

    def test_512_numbers(self):
        x = [32] + self.sum_of(171)[:511]
        self.assertEqual(len(self.sum_of(171)), 512)
        self.assertEqual(self.judged(*self.sum_of(171)), [0, 1, 1])
        self.assertEqual(ask(value(*self.sum_of(171))), [[0, 1, 1, 171]])
        self.assertEqual(self.judged(*x), [-3, 512])
        self.assertEqual(self.judged(17, 1, *[5] * 510), [-3, 2])

    def test_more_than_512_numbers(self):
        for count in (513, 514, 600):
            self.assertEqual(self.judged(*[19] * count), [-3, 512])
            self.assertEqual(self.judged(*[32] * count), [-3, 512])
            self.assertEqual(self.judged(17, 1, *[5] * (count - 2)), [-3, 512])
        self.assertEqual(self.judged(32, *self.sum_of(171)), [-3, 512])
        self.assertEqual(self.judged(*self.sum_of(171), 5), [-3, 512])

    def test_against_the_second_program(self):
        plain = plain_with(0, 0, TABLE)
        pool = [0, 1, 2, 16, 17, 18, 19, 31, 32, 33, 34, 37, 38, 48, 50, 55, 56]
        state = 1
        lists = []
        for length in range(1, 40):
            for _ in range(4):
                x = []
                for _ in range(length):
                    state = state * 6364136223846793005 % 2 ** 64 + 1442695040888963407
                    x.append(pool[(state >> 33) % len(pool)])
                lists.append(x)
        told = [told_with(0, 0, TABLE, judge(*x))[0] for x in lists]
        self.assertEqual(told, [plain.due_to_judge(x) for x in lists])


if __name__ == "__main__":
    unittest.main()
