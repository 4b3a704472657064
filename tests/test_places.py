"""Of several faults the one with the least place; one whose operands are at fault isn't at fault itself."""

import unittest

from tests.helper import HALF, KINDS, ask_each, judge, told_with, value

WIDE = (2, 3, [0, 1, 2, 3, 4, 5])
BROKEN = [50, 0, 0]
TOO_MUCH = [48, 18, HALF - 1, 18, 1]
TOO_LITTLE = [49, 18, HALF, 18, 1]


class NotAsAsked(unittest.TestCase):
    def judged(self, *x):
        told = told_with(0, 0, [WIDE], judge(*x), value(*x))
        self.assertEqual(told[0], told[1])
        return told[0]

    def test_the_least_of_several(self):
        self.assertEqual(self.judged(48, *BROKEN, *BROKEN), [-4, 1])
        self.assertEqual(self.judged(48, 32, *BROKEN, *BROKEN), [-4, 2])
        self.assertEqual(self.judged(48, *BROKEN, 32, *BROKEN), [-4, 1])
        self.assertEqual(self.judged(48, 0, *BROKEN), [-4, 2])
        self.assertEqual(self.judged(48, 48, 0, 48, 0, *BROKEN, *BROKEN), [-4, 5])
        self.assertEqual(self.judged(54, 53, 32, 0, 33, 0, 48, 17, 1, 17, 2), [-4, 4])

    def test_those_without_operands(self):
        self.assertEqual(self.judged(48, 16, 0, 1, 17, 17), [-4, 1])
        self.assertEqual(self.judged(48, 17, 17, 16, 0, 1), [-4, 1])
        self.assertEqual(self.judged(48, 17, 1, 17, 0), [-4, 3])
        self.assertEqual(self.judged(48, 33, 0, 16, 0, 0), [-4, 1])
        self.assertEqual(self.judged(48, 16, 0, 0, 33, 0), [-4, 1])

    def test_operands_at_fault(self):
        for number in (33, 35, 36):
            self.assertEqual(self.judged(number, *BROKEN), [-4, 1])
        self.assertEqual(self.judged(34, 65, *BROKEN), [-4, 2])
        self.assertEqual(self.judged(37, 0, 0, 0, 0, *BROKEN), [-4, 5])
        for number in range(48, 56):
            self.assertEqual(self.judged(number, *BROKEN, 0), [-4, 1])
            self.assertEqual(self.judged(number, 0, *BROKEN), [-4, 2])
            self.assertEqual(self.judged(number, 17, 2, 32, *BROKEN), [-4, 4])

    def test_operands_at_fault_where_there_is_no_minus(self):
        for kind in (3, 4, 5):
            told = told_with(kind, 0, [WIDE], judge(36, 33, 0), judge(49, 33, 0, 0), judge(49, 0, 49, 0, 0),
                             judge(36, 36, 17, 2), judge(49, 0, 0), judge(48, 36, 17, 1, 33, 0))
            self.assertEqual(told, [[-4, 1], [-4, 1], [-4, 2], [-4, 1], [-4, 0], [-4, 1]])

    def test_ahead_of_words_and_values(self):
        for x in ([50, 18, 9, 17, 2], [54, 48, 18, 1, 18, 9, 17, 2]):
            self.assertEqual(told_with(1, 5, [WIDE], value(*x)), [[-4, 0]])
        self.assertEqual(told_with(1, 5, [WIDE], value(48, 0, 33, 0)), [[-4, 2]])
        self.assertEqual(told_with(2, 0, [WIDE], value(48, *TOO_MUCH, 33, 0)), [[-4, 6]])


class NoNumber(unittest.TestCase):
    TABLE = [(2, 2, [1, 2, 3, 9]), (1, 1, [9]), (2, 2, [1, 2, 3, 4]), (2, 2, [9, 0, 0, 0])]

    def told(self, *x):
        return told_with(1, 5, self.TABLE, value(*x))[0]

    def test_the_place_of_the_first(self):
        self.assertEqual(self.told(0), [-7, 0])
        self.assertEqual(self.told(18, 5), [-7, 0])
        self.assertEqual(self.told(48, 2, 0), [-7, 2])
        self.assertEqual(self.told(48, 0, 2), [-7, 1])
        self.assertEqual(self.told(48, 0, 3), [-7, 1])
        self.assertEqual(self.told(48, 18, 4, 18, 5), [-7, 3])
        self.assertEqual(self.told(48, 18, 5, 18, 5), [-7, 1])
        self.assertEqual(self.told(55, 18, 5, 0), [-7, 1])
        self.assertEqual(self.told(55, 1, 0), [-7, 1])
        self.assertEqual(self.told(48, 48, 2, 3, 0), [-7, 3])
        self.assertEqual(self.told(48, 32, 32, 32, 0, 3), [-7, 4])

    def test_wherever_it_stands(self):
        self.assertEqual(self.told(37, 0, 1, 0, 1, 0), [-7, 5])
        self.assertEqual(self.told(37, 0, 2, 0, 2, 53, 2, 0), [-7, 7])
        self.assertEqual(self.told(34, 0, 0), [-7, 2])
        self.assertEqual(self.told(34, 0, 18, 5), [-7, 2])
        self.assertEqual(self.told(50, 16, 1, 2, 0), [-7, 4])
        self.assertEqual(self.told(55, 18, 0, 0), [-7, 3])
        self.assertEqual(self.told(35, 1), [-7, 1])
        self.assertEqual(self.told(49, 0, 0), [-7, 1])

    def test_each_entry_is_looked_at(self):
        for place in range(6):
            entries = [4] * 6
            entries[place] = 5
            self.assertEqual(told_with(1, 5, [(2, 3, entries)], value(32, 0)), [[-7, 1]])
            entries[place] = 4
            self.assertEqual(told_with(1, 5, [(2, 3, entries)], value(32, 0))[0][0], 0)

    def test_what_is_not_used(self):
        self.assertEqual(self.told(2), [0, 2, 2, 1, 2, 3, 4])
        self.assertEqual(self.told(50, 2, 2), [0, 2, 2, 2, 0, 0, 2])

    def test_numbers_that_are_no_words_of_the_arithmetic(self):
        # Sizes, exponents and places of a cut aren't held against m.
        told = told_with(1, 2, [(2, 2, [1, 0, 1, 1])], value(34, 3, 0), value(16, 3, 4), value(17, 3),
                         value(37, 2, 1, 2, 1, 17, 3))
        self.assertEqual([answer[:3] for answer in told], [[0, 2, 2], [0, 3, 4], [0, 3, 3], [0, 1, 1]])

    def test_judge_looks_at_none(self):
        told = told_with(1, 5, self.TABLE, judge(0), judge(18, 9), judge(48, 0, 3))
        self.assertEqual(told, [[0, 2, 2], [0, 1, 1], [0, 2, 2]])

    def test_in_all_other_arithmetics_every_word_is_a_number(self):
        for kind, modulus in KINDS:
            if kind != 1:
                self.assertEqual(ask_each(kind, modulus, [value(18, word) for word in (0, HALF, 2 ** 64 - 1)]),
                                 [[0, 1, 1, 0], [0, 1, 1, HALF], [0, 1, 1, 2 ** 64 - 1]])


class DoesNotFit(unittest.TestCase):
    def told(self, *x):
        return told_with(2, 0, [WIDE], value(*x))[0]

    def test_the_least_of_several(self):
        self.assertEqual(self.told(*TOO_MUCH), [-8, 0])
        self.assertEqual(self.told(48, *TOO_MUCH, *TOO_LITTLE), [-8, 1])
        self.assertEqual(self.told(48, *TOO_LITTLE, *TOO_MUCH), [-8, 1])
        self.assertEqual(self.told(48, 18, 1, *TOO_MUCH), [-8, 3])
        self.assertEqual(self.told(48, 32, 33, *TOO_MUCH, *TOO_LITTLE), [-8, 3])
        self.assertEqual(self.told(48, *TOO_LITTLE, 32, 33, *TOO_MUCH), [-8, 1])
        self.assertEqual(self.told(53, 53, 18, 1, *TOO_MUCH, 53, *TOO_MUCH, *TOO_MUCH), [-8, 4])

    def test_operands_that_do_not_fit(self):
        for number in (32, 33, 35, 36):
            self.assertEqual(self.told(number, *TOO_MUCH), [-8, 1])
        self.assertEqual(self.told(34, 0, *TOO_MUCH), [-8, 2])
        self.assertEqual(self.told(34, 64, *TOO_MUCH), [-8, 2])
        self.assertEqual(self.told(37, 0, 1, 0, 1, *TOO_MUCH), [-8, 5])
        self.assertEqual(self.told(37, 0, 1, 0, 1, 53, 18, 1, *TOO_MUCH), [-8, 8])
        for number in range(48, 56):
            self.assertEqual(self.told(number, *TOO_MUCH, 18, HALF), [-8, 1])
            self.assertEqual(self.told(number, 18, HALF, *TOO_MUCH), [-8, 3])
            self.assertEqual(self.told(number, 18, 0, *TOO_MUCH), [-8, 3])

    def test_what_would_come_back_does_not_help(self):
        self.assertEqual(self.told(49, *TOO_MUCH, 18, 1), [-8, 1])
        self.assertEqual(self.told(49, *TOO_MUCH, *TOO_MUCH), [-8, 1])


if __name__ == "__main__":
    unittest.main()
