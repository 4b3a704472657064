"""The calls plus, minus and times, in each of the eight arithmetics."""

import unittest

from tests.helper import EDGES, HALF, MINUS, PLUS, TIMES, TOP, ask_each, last

PAIRS = [(x, y) for x in EDGES for y in EDGES]
MODULI = [1, 2, 3, 97, 2 ** 32, HALF - 25, HALF - 1]
POLYNOMIALS = [0, 1, 2, 27, HALF - 1, HALF, 0xDEADBEEFCAFEF00D, TOP]


def signed(word):
    return int.from_bytes(word.to_bytes(8, "big"), "big", signed=True)


def fitted(value):
    """What arithmetic 2 answers to a value."""
    try:
        return [0, int.from_bytes(value.to_bytes(8, "big", signed=True), "big")]
    except OverflowError:
        return [-8]


def polynomial(x, y, modulus):
    """The whole product first, then its highest coefficients taken off: another way than the program's."""
    product = 0
    for power in range(64):
        if x & 1 << power:
            product ^= y << power
    while product >= 2 ** 64:
        product ^= (2 ** 64 | modulus) << product.bit_length() - 65
    return product


class Words(unittest.TestCase):
    def agree(self, kind, modulus, call, expected):
        told = ask_each(kind, modulus, [[call, x, y] for x, y in PAIRS])
        for (x, y), answer in zip(PAIRS, told, strict=True):
            self.assertEqual(answer, expected(x, y), f"arithmetic {kind}, m {modulus}, call {call}, {x}, {y}")

    def rows(self, kind, modulus, rows):
        for call, x, y, answer in rows:
            with self.subTest(kind=kind, modulus=modulus, call=call, x=x, y=y):
                self.assertEqual(last(kind, modulus, call, x, y), answer)

    def no_minus(self, kind):
        self.agree(kind, 0, MINUS, lambda x, y: [-4])


class Wrapping(Words):
    def test_rows(self):
        self.rows(0, 0, [(PLUS, 2, 3, [0, 5]), (PLUS, TOP, 1, [0, 0]), (PLUS, TOP, TOP, [0, TOP - 1]),
                         (PLUS, HALF, HALF, [0, 0]), (PLUS, HALF - 1, 1, [0, HALF]),
                         (MINUS, 3, 2, [0, 1]), (MINUS, 0, 1, [0, TOP]), (MINUS, 0, TOP, [0, 1]),
                         (MINUS, 0, HALF, [0, HALF]), (TIMES, 6, 7, [0, 42]), (TIMES, TOP, TOP, [0, 1]),
                         (TIMES, HALF, 2, [0, 0]), (TIMES, TOP, 2, [0, TOP - 1]), (TIMES, HALF - 1, 2, [0, TOP - 1])])

    def test_all_edges(self):
        self.agree(0, 0, PLUS, lambda x, y: [0, (x + y) % 2 ** 64])
        self.agree(0, 0, MINUS, lambda x, y: [0, (x - y) % 2 ** 64])
        self.agree(0, 0, TIMES, lambda x, y: [0, (x * y) % 2 ** 64])


class Modular(Words):
    def test_rows(self):
        self.rows(1, 7, [(PLUS, 5, 6, [0, 4]), (PLUS, 3, 4, [0, 0]), (MINUS, 2, 5, [0, 4]), (MINUS, 5, 5, [0, 0]),
                         (TIMES, 3, 5, [0, 1]), (TIMES, 6, 6, [0, 1]), (PLUS, 7, 0, [-7]), (PLUS, 0, 7, [-7]),
                         (MINUS, 7, 7, [-7]), (MINUS, 0, TOP, [-7]), (TIMES, 0, 7, [-7]), (TIMES, TOP, 0, [-7])])

    def test_the_only_number_modulo_1(self):
        for call in (PLUS, MINUS, TIMES):
            self.rows(1, 1, [(call, 0, 0, [0, 0]), (call, 1, 0, [-7]), (call, 0, 1, [-7]), (call, TOP, TOP, [-7])])

    def test_the_greatest_m(self):
        m = HALF - 1
        self.rows(1, m, [(PLUS, m - 1, m - 1, [0, m - 2]), (PLUS, m - 1, 1, [0, 0]), (MINUS, 0, m - 1, [0, 1]),
                         (TIMES, m - 1, m - 1, [0, 1]), (PLUS, m, 0, [-7]), (PLUS, 0, HALF, [-7]),
                         (TIMES, m, m, [-7])])

    def test_all_edges(self):
        for m in MODULI:
            self.agree(1, m, PLUS, lambda x, y: [0, (x + y) % m] if max(x, y) < m else [-7])
            self.agree(1, m, MINUS, lambda x, y: [0, (x - y) % m] if max(x, y) < m else [-7])
            self.agree(1, m, TIMES, lambda x, y: [0, (x * y) % m] if max(x, y) < m else [-7])


class Signed(Words):
    def test_rows(self):
        self.rows(2, 0, [(PLUS, 2, 3, [0, 5]), (PLUS, TOP, 1, [0, 0]), (PLUS, TOP, TOP, [0, TOP - 1]),
                         (PLUS, HALF - 1, 1, [-8]), (PLUS, HALF - 1, 0, [0, HALF - 1]), (PLUS, HALF, TOP, [-8]),
                         (PLUS, HALF, HALF - 1, [0, TOP]), (PLUS, HALF, HALF, [-8]), (PLUS, 2 ** 62, 2 ** 62, [-8]),
                         (MINUS, 0, 1, [0, TOP]), (MINUS, 2, 3, [0, TOP]), (MINUS, HALF, 1, [-8]),
                         (MINUS, 0, HALF, [-8]), (MINUS, TOP, HALF, [0, HALF - 1]), (MINUS, HALF - 1, TOP, [-8]),
                         (MINUS, TOP, HALF - 1, [0, HALF]), (TIMES, 6, 7, [0, 42]), (TIMES, TOP, 7, [0, TOP - 6]),
                         (TIMES, TOP, TOP, [0, 1]), (TIMES, HALF, TOP, [-8]), (TIMES, HALF, 1, [0, HALF]),
                         (TIMES, 2 ** 62, 2, [-8]), (TIMES, 2 ** 62, TOP - 1, [0, HALF]),
                         (TIMES, 3037000500, 3037000500, [-8]), (TIMES, 2 ** 32, 2 ** 32, [-8]),
                         (TIMES, HALF, HALF, [-8]), (TIMES, HALF, 0, [0, 0])])

    def test_all_edges(self):
        self.agree(2, 0, PLUS, lambda x, y: fitted(signed(x) + signed(y)))
        self.agree(2, 0, MINUS, lambda x, y: fitted(signed(x) - signed(y)))
        self.agree(2, 0, TIMES, lambda x, y: fitted(signed(x) * signed(y)))


class Ways(Words):
    def test_rows(self):
        self.rows(3, 0, [(PLUS, 2, 3, [0, 2]), (PLUS, TOP, 3, [0, 3]), (PLUS, TOP, TOP, [0, TOP]), (PLUS, 0, 0, [0, 0]),
                         (TIMES, 2, 3, [0, 5]), (TIMES, TOP, 0, [0, TOP]), (TIMES, TOP, 1, [0, TOP]),
                         (TIMES, HALF, HALF, [0, TOP]), (TIMES, HALF, HALF - 1, [0, TOP]),
                         (TIMES, HALF - 1, HALF - 1, [0, TOP - 1]), (TIMES, TOP, TOP, [0, TOP])])

    def test_all_edges(self):
        self.agree(3, 0, PLUS, lambda x, y: [0, x if x < y else y])
        self.agree(3, 0, TIMES, lambda x, y: [0, x + y if x + y < 2 ** 64 else TOP])
        self.no_minus(3)


class Widths(Words):
    def test_rows(self):
        self.rows(4, 0, [(PLUS, 2, 3, [0, 3]), (PLUS, HALF, HALF - 1, [0, HALF]), (PLUS, TOP, 0, [0, TOP]),
                         (TIMES, 2, 3, [0, 2]), (TIMES, HALF, HALF - 1, [0, HALF - 1]), (TIMES, TOP, 9, [0, 9])])

    def test_all_edges(self):
        self.agree(4, 0, PLUS, lambda x, y: [0, y if x < y else x])
        self.agree(4, 0, TIMES, lambda x, y: [0, x if x < y else y])
        self.no_minus(4)


class Truths(Words):
    def test_rows(self):
        self.rows(5, 0, [(PLUS, 12, 10, [0, 14]), (TIMES, 12, 10, [0, 8]), (PLUS, HALF, HALF - 1, [0, TOP]),
                         (TIMES, HALF, HALF - 1, [0, 0]), (TIMES, TOP, HALF, [0, HALF]), (PLUS, TOP, TOP, [0, TOP])])

    def test_all_edges(self):
        self.agree(5, 0, PLUS, lambda x, y: [0, x | y])
        self.agree(5, 0, TIMES, lambda x, y: [0, x & y])
        self.no_minus(5)


class Bits(Words):
    def test_rows(self):
        self.rows(6, 0, [(PLUS, 12, 10, [0, 6]), (MINUS, 12, 10, [0, 6]), (TIMES, 12, 10, [0, 8]),
                         (PLUS, TOP, TOP, [0, 0]), (MINUS, 0, TOP, [0, TOP]), (TIMES, TOP, HALF, [0, HALF])])

    def test_all_edges(self):
        self.agree(6, 0, PLUS, lambda x, y: [0, x ^ y])
        self.agree(6, 0, MINUS, lambda x, y: [0, x ^ y])
        self.agree(6, 0, TIMES, lambda x, y: [0, x & y])


class Polynomials(Words):
    def test_plus_and_minus(self):
        for m in POLYNOMIALS:
            self.agree(7, m, PLUS, lambda x, y: [0, x ^ y])
            self.agree(7, m, MINUS, lambda x, y: [0, x ^ y])

    def test_times_below_x_64(self):
        for m in (0, 27, HALF, TOP):
            self.rows(7, m, [(TIMES, 3, 3, [0, 5]), (TIMES, 7, 3, [0, 9]), (TIMES, 1, TOP, [0, TOP]),
                             (TIMES, TOP, 0, [0, 0]), (TIMES, 2, HALF - 1, [0, TOP - 1]),
                             (TIMES, 2 ** 31, 2 ** 32, [0, HALF]),
                             (TIMES, 2 ** 32 - 1, 2 ** 32 - 1, [0, 0x5555555555555555])])

    def test_times_with_m_0(self):
        self.rows(7, 0, [(TIMES, HALF, 2, [0, 0]), (TIMES, HALF, 3, [0, HALF]), (TIMES, TOP, 2, [0, TOP - 1]),
                         (TIMES, HALF, HALF, [0, 0]), (TIMES, TOP, TOP, [0, 0x5555555555555555])])

    def test_times_with_a_small_m(self):
        self.rows(7, 27, [(TIMES, HALF, 2, [0, 27]), (TIMES, 2, HALF, [0, 27]), (TIMES, HALF, 4, [0, 54]),
                          (TIMES, 2 ** 32, 2 ** 32, [0, 27]), (TIMES, HALF, 3, [0, HALF + 27])])

    def test_times_with_an_m_from_2_63_on(self):
        # X^64 is X^63, and so are all powers above it.
        self.rows(7, HALF, [(TIMES, HALF, 2, [0, HALF]), (TIMES, HALF, HALF, [0, HALF]), (TIMES, HALF, 3, [0, 0])])
        # X^64 is the sum of all powers below it, and X^65 is 1.
        self.rows(7, TOP, [(TIMES, HALF, 2, [0, TOP]), (TIMES, HALF, 4, [0, 1]), (TIMES, HALF, 8, [0, 2]),
                           (TIMES, HALF, HALF, [0, 2 ** 61])])

    def test_all_edges(self):
        for m in POLYNOMIALS:
            self.agree(7, m, TIMES, lambda x, y: [0, polynomial(x, y, m)])


if __name__ == "__main__":
    unittest.main()
