"""The call arithmetic."""

import unittest

from tests.helper import ARITHMETIC, CLEAR, HALF, MATRIX, MINUS, PLUS, TIMES, TOP, ask, matrix


class WhichThereAre(unittest.TestCase):
    def chosen(self, kind, modulus):
        return ask([ARITHMETIC, kind, modulus])[0]

    def test_those_that_ask_m_0(self):
        for kind in (0, 2, 3, 4, 5, 6):
            with self.subTest(kind=kind):
                self.assertEqual(self.chosen(kind, 0), [0])
                for modulus in (1, 2, HALF - 1, HALF, TOP):
                    self.assertEqual(self.chosen(kind, modulus), [-1])

    def test_modular_asks_m_from_1_to_below_2_63(self):
        for modulus in (1, 2, 97, 2 ** 32, HALF - 2, HALF - 1):
            self.assertEqual(self.chosen(1, modulus), [0])
        for modulus in (0, HALF, HALF + 1, TOP):
            self.assertEqual(self.chosen(1, modulus), [-1])

    def test_polynomials_take_any_m(self):
        for modulus in (0, 1, 27, HALF - 1, HALF, TOP - 1, TOP):
            self.assertEqual(self.chosen(7, modulus), [0])

    def test_there_is_none_from_8_on(self):
        for kind in (8, 9, 16, 2 ** 32, HALF, TOP):
            for modulus in (0, 1, 5, TOP):
                self.assertEqual(self.chosen(kind, modulus), [-1])


class WhatHolds(unittest.TestCase):
    def test_at_the_beginning_it_is_0(self):
        self.assertEqual(ask([PLUS, TOP, 3], [MINUS, 0, 1], [TIMES, HALF, 2]), [[0, 2], [0, TOP], [0, 0]])

    def test_the_last_one_chosen_holds(self):
        told = ask([ARITHMETIC, 3, 0], [PLUS, 5, 7], [ARITHMETIC, 4, 0], [PLUS, 5, 7],
                   [ARITHMETIC, 1, 10], [PLUS, 5, 7], [ARITHMETIC, 1, 11], [PLUS, 5, 7],
                   [ARITHMETIC, 0, 0], [PLUS, 5, 7])
        self.assertEqual(told, [[0], [0, 5], [0], [0, 7], [0], [0, 2], [0], [0, 1], [0], [0, 12]])

    def test_refused_leaves_the_one_before(self):
        for refused in ([8, 0], [TOP, TOP], [0, 1], [1, 0], [1, HALF], [2, 1], [6, 1]):
            with self.subTest(refused=refused):
                told = ask([ARITHMETIC, 1, 10], [ARITHMETIC] + refused, [PLUS, 8, 7], [PLUS, 10, 0])
                self.assertEqual(told, [[0], [-1], [0, 5], [-7]])

    def test_refused_leaves_the_m_before(self):
        told = ask([ARITHMETIC, 7, 27], [ARITHMETIC, 9, 5], [TIMES, HALF, 2])
        self.assertEqual(told, [[0], [-1], [0, 27]])

    def test_refused_at_the_beginning_leaves_0(self):
        self.assertEqual(ask([ARITHMETIC, 1, 0], [PLUS, TOP, 1]), [[-1], [0, 0]])

    def test_the_table_stays(self):
        calls = [matrix(1, 1, [5])]
        for kind in range(8):
            calls.append([ARITHMETIC, kind, 1 if kind == 1 else 0])
            calls.append(matrix(1, 1, [5]))
        told = ask(*calls)
        self.assertEqual(told[0], [0])
        self.assertEqual(told[1::2], [[0]] * 8)
        self.assertEqual(told[2::2], [[number] for number in range(1, 9)])

    def test_clear_leaves_the_arithmetic(self):
        self.assertEqual(ask([ARITHMETIC, 1, 10], [CLEAR], [PLUS, 8, 7]), [[0], [0], [0, 5]])

    def test_a_refused_matrix_leaves_the_arithmetic(self):
        told = ask([ARITHMETIC, 4, 0], [MATRIX, 0, 1, 0], [PLUS, 8, 7])
        self.assertEqual(told, [[0], [-2], [0, 8]])


if __name__ == "__main__":
    unittest.main()
