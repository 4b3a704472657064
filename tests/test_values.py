"""What each operation is, in each of the eight arithmetics."""

import unittest

from tests.helper import EDGES, HALF, KINDS, TOP, plain_with, told_with, value

MORE_KINDS = KINDS + [(1, 1), (1, 2), (1, 6), (1, 12), (1, HALF - 1), (7, 0), (7, 1), (7, HALF), (7, TOP)]
RINGS = (0, 1, 2, 6, 7)

A = (2, 2, [1, 2, 3, 4])
B = (2, 2, [6, 5, 0, 7])
ROW = (1, 3, [5, 6, 7])


def table_of(kind, modulus, small):
    """Matrices of several sizes; in arithmetic 2 so small that all that is asked of them below fits."""
    words = [1, 2, TOP, 0, 3, TOP - 1, 1, 0, 2] if small else EDGES
    table = []
    for number, (rows, columns) in enumerate([(1, 1), (2, 2), (2, 2), (3, 3), (2, 3), (3, 2), (6, 6), (16, 16), (1, 16)]):
        entries = [words[(number * 7 + place * (3 + number)) % len(words)] for place in range(rows * columns)]
        table.append((rows, columns, [word % modulus if kind == 1 else word for word in entries]))
    return table


EXPRESSIONS = [
    [0], [1], [4], [7], [16, 1, 1], [16, 3, 5], [16, 16, 16], [17, 1], [17, 4], [17, 16], [18, 0],
    [32, 0], [32, 1], [32, 4], [32, 7], [32, 8], [33, 0], [33, 1], [33, 3], [33, 6], [33, 7],
    *[[34, power, 1] for power in (0, 1, 2, 3, 4, 5, 7, 8)], *[[34, power, 0] for power in (0, 1, 9, 31, 62, 63, 64)],
    [34, 0, 7], [34, 1, 7], [34, 3, 7], [34, 64, 17, 3], [34, 5, 3],
    [35, 0], [35, 1], [35, 2], [35, 3], [35, 6], [35, 17, 16], [35, 16, 16, 16],
    [36, 0], [36, 1], [36, 2], [36, 3], [36, 6], [36, 17, 5], [36, 32, 6], [36, 37, 1, 4, 2, 4, 7],
    [36, 37, 3, 5, 0, 5, 7],
    [37, 0, 1, 0, 1, 4], [37, 1, 1, 0, 3, 4], [37, 0, 2, 1, 2, 4], [37, 3, 9, 5, 11, 7], [37, 0, 16, 0, 16, 7],
    [48, 1, 2], [48, 4, 4], [48, 7, 32, 7], [49, 1, 2], [49, 4, 4], [49, 7, 32, 7],
    [50, 1, 2], [50, 2, 1], [50, 4, 5], [50, 5, 4], [50, 7, 7], [50, 8, 7], [50, 8, 32, 8], [50, 32, 8, 8],
    [51, 1, 2], [51, 4, 32, 5], [51, 7, 7], [52, 1, 4], [52, 4, 1], [52, 5, 5], [52, 0, 7], [52, 7, 0], [52, 32, 8, 8],
    [53, 1, 4], [53, 4, 1], [53, 0, 0], [54, 1, 5], [54, 5, 1], [54, 8, 8], [55, 0, 7], [55, 0, 0], [55, 18, 0, 4],
]


class AgainstTheWords(unittest.TestCase):
    def agree(self, kind, modulus, table):
        plain = plain_with(kind, modulus, table)
        told = told_with(kind, modulus, table, *[value(*x) for x in EXPRESSIONS])
        for x, answer in zip(EXPRESSIONS, told, strict=True):
            self.assertEqual(answer, plain.due_to_value(x), f"{x} in arithmetic {kind}, m {modulus}")
        return told

    def test_all_in_each_arithmetic(self):
        for kind, modulus in MORE_KINDS:
            told = self.agree(kind, modulus, table_of(kind, modulus, False))
            if kind in (0, 1, 6, 7):
                self.assertEqual({answer[0] for answer in told}, {0})

    def test_small_entries(self):
        for kind, modulus in KINDS:
            told = self.agree(kind, modulus, table_of(kind, modulus, True))
            if kind == 2:
                self.assertGreater(sum(answer[0] == 0 for answer in told), len(told) - 6)


class ByHand(unittest.TestCase):
    """Values written out, in the order of the arithmetics; None where there's no minus."""

    def each(self, x, size, *dues):
        for (kind, modulus), due in zip(KINDS, dues, strict=True):
            told = told_with(kind, modulus, [A, B, ROW], value(*x))[0]
            self.assertEqual(told, [-4, 0] if due is None else [0, *size, *due], f"{x} in arithmetic {kind}")

    def same(self, x, size, due):
        self.each(x, size, *[due] * 8)

    def test_matrices(self):
        self.same([0], (2, 2), [1, 2, 3, 4])
        self.same([2], (1, 3), [5, 6, 7])

    def test_none_and_one(self):
        self.each([16, 1, 2], (1, 2), [0, 0], [0, 0], [0, 0], [TOP, TOP], [0, 0], [0, 0], [0, 0], [0, 0])
        zero, top = [1, 0, 0, 1], [TOP, 0, 0, TOP]
        self.each([17, 2], (2, 2), zero, zero, zero, [0, TOP, TOP, 0], top, top, top, zero)
        self.same([18, 9], (1, 1), [9])

    def test_turned(self):
        self.same([32, 0], (2, 2), [1, 3, 2, 4])
        self.same([32, 2], (3, 1), [5, 6, 7])

    def test_the_sum_of_the_diagonal(self):
        self.each([33, 0], (1, 1), [5], [5], [5], [1], [4], [5], [5], [5])
        self.each([33, 1], (1, 1), [13], [13], [13], [6], [7], [7], [1], [1])

    def test_powers(self):
        self.each([34, 2, 0], (2, 2), [7, 10, 15, 22], [7, 10, 15, 22], [7, 10, 15, 22], [2, 3, 4, 5], [2, 2, 3, 4],
                  [3, 0, 1, 6], [3, 0, 1, 6], [7, 10, 15, 22])

    def test_the_closure(self):
        plain, bits = [2, 2, 3, 5], [TOP, 2, 3, TOP]
        self.each([35, 0], (2, 2), plain, plain, plain, [0, 2, 3, 0], bits, bits, [TOP - 1, 2, 3, TOP - 4], [0, 2, 3, 5])

    def test_determinants(self):
        self.each([36, 0], (1, 1), [TOP - 1], [95], [TOP - 1], None, None, None, [2], [2])
        self.each([36, 1], (1, 1), [42], [42], [42], None, None, None, [6], [18])

    def test_cuts(self):
        self.same([37, 0, 1, 1, 2, 2], (1, 2), [6, 7])
        self.same([37, 1, 1, 0, 1, 0], (1, 1), [3])

    def test_sums_and_differences(self):
        whole = [7, 7, 3, 11]
        self.each([48, 0, 1], (2, 2), whole, whole, whole, [1, 2, 0, 4], [6, 5, 3, 7], [7, 7, 3, 7], [7, 7, 3, 3],
                  [7, 7, 3, 3])
        wrapped = [TOP - 4, TOP - 2, 3, TOP - 2]
        self.each([49, 0, 1], (2, 2), wrapped, [92, 94, 3, 94], wrapped, None, None, None, [7, 7, 3, 3], [7, 7, 3, 3])

    def test_products(self):
        whole = [6, 19, 18, 43]
        self.each([50, 0, 1], (2, 2), whole, whole, whole, [2, 6, 4, 8], [1, 2, 3, 4], [0, 3, 2, 5], [0, 3, 2, 5],
                  [6, 5 ^ 14, 10, 15 ^ 28])
        entry_by_entry = [6, 10, 0, 28]
        self.each([51, 0, 1], (2, 2), entry_by_entry, entry_by_entry, entry_by_entry, [7, 7, 3, 11], [1, 2, 0, 4],
                  [0, 0, 0, 4], [0, 0, 0, 4], entry_by_entry)

    def test_blocks(self):
        whole = [5, 6, 7, 10, 12, 14, 15, 18, 21, 20, 24, 28]
        self.each([52, 0, 2], (2, 6), whole, whole, whole, [6, 7, 8, 7, 8, 9, 8, 9, 10, 9, 10, 11],
                  [1, 1, 1, 2, 2, 2, 3, 3, 3, 4, 4, 4], [1, 0, 1, 0, 2, 2, 1, 2, 3, 4, 4, 4],
                  [1, 0, 1, 0, 2, 2, 1, 2, 3, 4, 4, 4], [5, 6, 7, 10, 12, 14, 15, 10, 9, 20, 24, 28])
        self.same([53, 0, 1], (2, 4), [1, 2, 6, 5, 3, 4, 0, 7])
        self.same([54, 0, 1], (4, 2), [1, 2, 3, 4, 6, 5, 0, 7])
        self.each([55, 18, 3, 2], (1, 3), [15, 18, 21], [15, 18, 21], [15, 18, 21], [8, 9, 10], [3, 3, 3], [1, 2, 3],
                  [1, 2, 3], [15, 10, 9])


class Modular(unittest.TestCase):
    def one(self, modulus, table, x, due):
        self.assertEqual(told_with(1, modulus, table, value(*x)), [due], f"{x} modulo {modulus}")

    def test_modulo_1_one_is_0(self):
        zero = (2, 2, [0, 0, 0, 0])
        nothing = [0, 2, 2, 0, 0, 0, 0]
        for x in [17, 2], [34, 0, 0], [34, 1, 0], [34, 64, 0], [35, 0], [48, 17, 2, 17, 2], [49, 17, 2, 17, 2], [50, 17, 2, 0]:
            self.one(1, [zero], x, nothing)
        self.one(1, [zero], [36, 17, 3], [0, 1, 1, 0])
        self.one(1, [zero], [33, 17, 16], [0, 1, 1, 0])
        self.one(1, [zero], [35, 18, 0], [0, 1, 1, 0])
        self.one(1, [zero], [34, 0, 18, 0], [0, 1, 1, 0])
        self.one(1, [zero], [18, 1], [-7, 0])

    def test_an_m_that_is_not_prime(self):
        self.one(6, [(2, 2, [2, 3, 4, 5])], [36, 0], [0, 1, 1, 4])
        self.one(4, [(2, 2, [2, 0, 0, 2])], [50, 0, 0], [0, 2, 2, 0, 0, 0, 0])
        self.one(4, [(2, 2, [2, 0, 0, 2])], [36, 0], [0, 1, 1, 0])
        self.one(2 ** 32, [(2, 2, [2 ** 31, 1, 2 ** 16, 2])], [36, 0], [0, 1, 1, 2 ** 32 - 2 ** 16])
        self.one(15, [(3, 3, [3, 5, 3, 5, 3, 5, 10, 6, 9])], [36, 0], [0, 1, 1, 1])

    def test_the_largest_m(self):
        m = HALF - 1
        self.one(m, [(1, 2, [m - 1, m - 1])], [50, 0, 32, 0], [0, 1, 1, 2])
        self.one(m, [(1, 2, [m - 1, m - 1])], [48, 0, 0], [0, 1, 2, m - 2, m - 2])
        self.one(m, [(1, 2, [m - 1, 1])], [49, 16, 1, 2, 0], [0, 1, 2, 1, m - 1])


class Large(unittest.TestCase):
    def test_permutations_of_six(self):
        # One entry in each row and each column: its determinant is the permutation's sign.
        for way, sign in ((0, 1, 2, 3, 4, 5), 1), ((1, 0, 2, 3, 4, 5), -1), ((1, 2, 3, 4, 5, 0), -1), \
                ((5, 4, 3, 2, 1, 0), -1), ((2, 0, 1, 5, 3, 4), 1), ((0, 5, 2, 3, 4, 1), -1):
            entries = [1 if column == way[row] else 0 for row in range(6) for column in range(6)]
            self.assertEqual(told_with(2, 0, [(6, 6, entries)], value(36, 0)), [[0, 1, 1, sign % 2 ** 64]], way)

    def test_each_power_of_a_turning(self):
        turn = (5, 5, [1 if (row + 1) % 5 == column else 0 for row in range(5) for column in range(5)])
        for kind, modulus in (0, 0), (1, 97), (2, 0), (7, 27):
            told = told_with(kind, modulus, [turn], *[value(34, power, 0) for power in range(65)])
            for power, answer in enumerate(told):
                due = [1 if (row + power) % 5 == column else 0 for row in range(5) for column in range(5)]
                self.assertEqual(answer, [0, 5, 5, *due], f"power {power} in arithmetic {kind}")

    def test_the_closure_goes_as_far_as_the_rows(self):
        for size in range(1, 17):
            path = (size, size, [1 if row + 1 == column else TOP for row in range(size) for column in range(size)])
            due = [column - row if column >= row else TOP for row in range(size) for column in range(size)]
            self.assertEqual(told_with(3, 0, [path], value(35, 0)), [[0, size, size, *due]])
            counted = (size, size, [2 if row + 1 == column else 0 for row in range(size) for column in range(size)])
            due = [2 ** (column - row) if column >= row else 0 for row in range(size) for column in range(size)]
            self.assertEqual(told_with(0, 0, [counted], value(35, 0)), [[0, size, size, *due]])


if __name__ == "__main__":
    unittest.main()
