"""What each operation asks, and the size of its value, in each of the eight arithmetics."""

import unittest

from tests.helper import ENTRY, HALF, KINDS, TOP, ask_each, entry, judge, told_with, value

RINGS = (0, 1, 2, 6, 7)
BIG = 2 ** 64 - 1


def sized(*size):
    return [16, *size]


class Asks(unittest.TestCase):
    def each(self, rows, kinds=range(8)):
        """Rows of an expression and its size, or None where it's not as it asks: at the place of the outermost."""
        for kind, modulus in KINDS:
            told = ask_each(kind, modulus, [judge(*x) for x, size in rows])
            for (x, size), answer in zip(rows, told, strict=True):
                due = [-4, 0] if size is None or kind not in kinds else [0, *size]
                self.assertEqual(answer, due, f"{x} in arithmetic {kind}")

    def test_0_to_15(self):
        table = [(rows, 17 - rows, [0] * (rows * (17 - rows))) for rows in range(1, 17)]
        for kind, modulus in KINDS:
            told = told_with(kind, modulus, table, *[judge(number) for number in range(16)])
            self.assertEqual(told, [[0, rows, 17 - rows] for rows in range(1, 17)])

    def test_16(self):
        self.each([(sized(rows, columns), (rows, columns)) for rows in range(1, 17) for columns in range(1, 17)])
        self.each([(sized(*size), None) for size in ((0, 1), (1, 0), (0, 0), (17, 1), (1, 17), (17, 17), (BIG, 1),
                                                     (1, BIG), (BIG, BIG), (2 ** 32, 2 ** 32), (HALF, 2))])

    def test_17(self):
        self.each([([17, size], (size, size)) for size in range(1, 17)])
        self.each([([17, size], None) for size in (0, 17, 18, 2 ** 32, HALF, BIG)])

    def test_18(self):
        self.each([([18, word], (1, 1)) for word in (0, 1, 18, 97, HALF, BIG)])

    def test_32(self):
        self.each([([32, *sized(rows, columns)], (columns, rows)) for rows in (1, 2, 16) for columns in (1, 3, 16)])

    def squares(self, number, given, size, kinds=range(8), largest=16):
        for rows in (1, 2, 3, 5, 6, 7, 15, 16):
            for columns in (1, 2, 3, 5, 6, 7, 15, 16):
                may = rows == columns <= largest
                self.each([([number, *given, *sized(rows, columns)], size(rows) if may else None)], kinds)

    def test_33(self):
        self.squares(33, [], lambda side: (1, 1))

    def test_34(self):
        self.squares(34, [2], lambda side: (side, side))
        self.each([([34, power, 17, 3], (3, 3)) for power in (0, 1, 2, 63, 64)])
        self.each([([34, power, 17, 3], None) for power in (65, 66, 128, 1000, 2 ** 32, HALF, BIG)])
        self.each([([34, power, 16, 1, 2], None) for power in (0, 1, 64, 65)])

    def test_35(self):
        self.squares(35, [], lambda side: (side, side))

    def test_36(self):
        self.squares(36, [], lambda side: (1, 1), RINGS, 6)

    def test_37(self):
        rows, columns = 3, 5
        cut = [([37, i, p, j, q, *sized(rows, columns)], (p, q) if p > 0 and q > 0 and i + p <= 3 and j + q <= 5 else None)
               for i in (0, 1, 2, 3) for p in (0, 1, 2, 3, 4) for j in (0, 1, 4, 5) for q in (0, 1, 4, 5, 6)]
        self.each(cut)
        self.each([([37, *given, *sized(rows, columns)], None) for given in (
            (BIG, 1, 0, 1), (0, BIG, 0, 1), (0, 1, BIG, 1), (0, 1, 0, BIG), (BIG, BIG, BIG, BIG), (BIG, 2, 0, 1),
            (0, 1, BIG, 2), (HALF, HALF, 0, 1), (0, 1, HALF, HALF), (2 ** 32, 1, 0, 1))])
        self.each([([37, 15, 1, 0, 16, *sized(16, 16)], (1, 16)), ([37, 0, 16, 15, 1, *sized(16, 16)], (16, 1))])

    def test_48_49_51(self):
        sizes = [(1, 1), (2, 3), (3, 2), (2, 2), (6, 1), (16, 16), (16, 15)]
        for number in (48, 49, 51):
            self.each([([number, *sized(*x), *sized(*y)], x if x == y else None) for x in sizes for y in sizes],
                      RINGS if number == 49 else range(8))

    def test_50(self):
        sizes = [(1, 1), (2, 3), (3, 2), (2, 2), (6, 1), (1, 16), (16, 16)]
        self.each([([50, *sized(*x), *sized(*y)], (x[0], y[1]) if x[1] == y[0] else None)
                   for x in sizes for y in sizes])

    def test_52(self):
        sizes = [(1, 1), (2, 3), (4, 4), (5, 3), (3, 5), (8, 2), (2, 8), (16, 1), (1, 16), (9, 9), (16, 16)]
        self.each([([52, *sized(*x), *sized(*y)],
                    (x[0] * y[0], x[1] * y[1]) if x[0] * y[0] <= 16 and x[1] * y[1] <= 16 else None)
                   for x in sizes for y in sizes])

    def test_53(self):
        sizes = [(1, 1), (2, 3), (2, 13), (2, 14), (3, 13), (2, 8), (2, 9), (16, 1), (16, 15), (16, 16)]
        self.each([([53, *sized(*x), *sized(*y)],
                    (x[0], x[1] + y[1]) if x[0] == y[0] and x[1] + y[1] <= 16 else None) for x in sizes for y in sizes])

    def test_54(self):
        sizes = [(1, 1), (3, 2), (13, 2), (14, 2), (13, 3), (8, 2), (9, 2), (1, 16), (15, 16), (16, 16)]
        self.each([([54, *sized(*x), *sized(*y)],
                    (x[0] + y[0], x[1]) if x[1] == y[1] and x[0] + y[0] <= 16 else None) for x in sizes for y in sizes])

    def test_55(self):
        sizes = [(1, 1), (1, 2), (2, 1), (2, 2), (16, 16)]
        self.each([([55, *sized(*x), *sized(*y)], y if x == (1, 1) else None) for x in sizes for y in sizes])


class WhereItIsTold(unittest.TestCase):
    # Of each operation that can be at fault one that is.
    BROKEN = [sized(0, 1), [17, 17], [33, *sized(1, 2)], [34, 65, 17, 2], [34, 1, *sized(2, 1)], [35, *sized(2, 1)],
              [36, *sized(1, 2)], [36, 17, 7], [37, 0, 3, 0, 1, 17, 2], [48, 17, 1, 17, 2], [49, 17, 1, 17, 2],
              [50, 17, 1, 17, 2], [51, 17, 1, 17, 2], [52, 17, 5, 17, 4], [53, 17, 1, 17, 2], [54, 17, 1, 17, 2],
              [55, 17, 2, 17, 1]]

    def test_at_the_place_of_the_operation(self):
        for kind, modulus in KINDS:
            for x in self.BROKEN:
                told = ask_each(kind, modulus, [judge(*x), judge(32, *x), judge(54, 34, 2, 17, 1, *x),
                                                judge(37, 0, 1, 0, 1, *x)])
                self.assertEqual(told, [[-4, 0], [-4, 1], [-4, 5], [-4, 5]], f"{x} in arithmetic {kind}")

    def test_the_same_of_judge_value_and_entry(self):
        for kind, modulus in KINDS:
            for x in self.BROKEN:
                told = ask_each(kind, modulus, [judge(32, *x), value(32, *x), entry(0, 0, 32, *x),
                                                entry(TOP, 5, 32, *x)])
                self.assertEqual(told, [[-4, 1]] * 4, f"{x} in arithmetic {kind}")

    def test_no_minus(self):
        for kind, modulus in KINDS:
            ring = kind in RINGS
            told = ask_each(kind, modulus, [
                judge(36, 17, 2), judge(49, 17, 2, 17, 2), judge(32, 36, 17, 2), judge(48, 17, 1, 49, 18, 1, 18, 1),
                value(36, 17, 2), value(49, 17, 2, 17, 2), [ENTRY, 0, 0, 3, 36, 17, 1]])
            sizes = [[0, 1, 1], [0, 2, 2], [0, 1, 1], [0, 1, 1]]
            refused = [[-4, 0], [-4, 0], [-4, 1], [-4, 3]]
            self.assertEqual(told[:4], sizes if ring else refused, kind)
            self.assertEqual([answer == [-4, 0] for answer in told[4:]], [not ring] * 3, kind)


if __name__ == "__main__":
    unittest.main()
