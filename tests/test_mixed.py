"""Lines that are put together by chance, always the same ones, held against the second program."""

import random
import unittest

from gridtalk.grids import answers
from tests.helper import ARITHMETIC, EDGES, HALF, TOP, Plain, alike, apart, entry, judge, line, matrix, value

MODULI = {1: [1, 2, 3, 6, 12, 97, 2 ** 32, HALF - 1], 7: [0, 1, 27, HALF, TOP]}


class Chance:
    """Expressions put together by chance; most of them are as the operations ask."""

    def __init__(self, seed, words, table, has_minus):
        self.random = random.Random(seed)
        self.words = words
        self.table = table
        self.has_minus = has_minus

    def word(self):
        return self.random.choice(self.words)

    def side(self):
        return self.random.choice([1, 1, 2, 2, 3, 4])

    def leaf(self, rows, columns):
        fit = [number for number, there in enumerate(self.table) if (len(there), len(there[0])) == (rows, columns)]
        ways = [[16, rows, columns]] + [[number] for number in fit] * 3
        if rows == columns:
            ways.append([17, rows])
        if rows == columns == 1:
            ways.extend([[18, self.word()]] * 3)
        return self.random.choice(ways)

    def expression(self, rows, columns, depth):
        if depth == 0 or self.random.random() < 0.15:
            return self.leaf(rows, columns)
        ways = [32, 37, 48, 50, 51, 55]
        minus = self.has_minus or self.random.random() < 0.05
        ways.extend([49] if minus else [])
        if rows == columns:
            ways.extend([34, 35])
        if rows == columns == 1:
            ways.extend([33, 36] if minus else [33])
        ways.extend([53] if columns > 1 else [])
        ways.extend([54] if rows > 1 else [])
        ways.extend([52] if rows % 2 == 0 or columns % 2 == 0 else [])
        if self.random.random() < 0.03:
            rows, columns = self.side(), self.side()
        return self.operation(self.random.choice(ways), rows, columns, depth - 1)

    def operation(self, number, rows, columns, depth):
        choice = self.random.choice
        side = self.side()
        before, behind = choice([0, 0, 1, 2]), choice([0, 0, 1])
        over, under = choice([0, 0, 1, 2]), choice([0, 0, 1])
        left = self.random.randint(1, max(1, columns - 1))
        top = self.random.randint(1, max(1, rows - 1))
        down, across = choice([(2, 1), (1, 2), (2, 2), (rows, columns)])
        sizes = {
            32: [(columns, rows)], 33: [(side, side)], 34: [(rows, columns)], 35: [(rows, columns)],
            36: [(side, side)], 37: [(over + rows + under, before + columns + behind)],
            50: [(rows, side), (side, columns)], 52: [(down, across), (max(1, rows // down), max(1, columns // across))],
            53: [(rows, left), (rows, max(1, columns - left))], 54: [(top, columns), (max(1, rows - top), columns)],
            55: [(1, 1), (rows, columns)]}.get(number, [(rows, columns)] * 2)
        given = {34: [choice([0, 1, 2, 3, 5, 64])], 37: [over, rows, before, columns]}.get(number, [])
        return [number] + given + [part for size in sizes for part in self.expression(*size, depth)]

    def whole(self):
        x = self.expression(self.side(), self.side(), self.random.randint(0, 5))
        while self.random.random() < 0.12:
            place = self.random.randint(0, len(x))
            change = self.random.choice([x[:place], x + [17], x[:place] + [self.random.randint(0, 60)] + x[place + 1:]])
            x = change
        return x if len(x) <= 60 else [18, 5]


def tables(chance):
    sides = [(1, 1), (1, 2), (2, 1), (2, 2), (2, 2), (3, 3), (2, 3), (4, 4)]
    return [[[chance.word() for _ in range(columns)] for _ in range(rows)] for rows, columns in sides]


class Mixed(unittest.TestCase):
    def agree(self, kind, modulus, words, seed):
        table = tables(Chance(seed, words, [], True))
        chance = Chance(seed, words, table, kind not in (3, 4, 5))
        plain = Plain(kind, modulus, table)
        calls, due = [], []
        for _ in range(5):
            x, y = chance.whole(), chance.whole()
            row, column = chance.side() - 1, chance.side() - 1
            same = [32, 32] + x
            calls.extend([judge(*x), value(*y), entry(row, column, *x), alike(x, y), alike(y, [48] + y + y),
                          alike(x, same)])
            due.extend([plain.due_to_judge(x), plain.due_to_value(y), plain.due_to_entry(x, row, column),
                        plain.due_to_alike(x, y), plain.due_to_alike(y, [48] + y + y), plain.due_to_alike(x, same)])
        entries = [[word for row in rows for word in row] for rows in table]
        made = [matrix(len(rows), len(rows[0]), words) for rows, words in zip(table, entries)]
        handed_in = line([ARITHMETIC, kind, modulus], *made, *calls)
        kept = list(handed_in)
        told = apart(answers(handed_in))
        self.assertEqual(handed_in, kept)
        for call, answer, expected in zip(calls, told[1 + len(table):], due, strict=True):
            self.assertEqual(answer, expected, f"{call} in arithmetic {kind}, m {modulus}, with {table}")

    def lines(self, kind):
        few = [0, 1, 2, 3, TOP, TOP - 1, 5]
        for seed in range(24):
            modulus = MODULI[kind][seed % len(MODULI[kind])] if kind in MODULI else 0
            words = EDGES if seed % 3 == 0 else few
            if kind == 1 and seed % 8:
                words = [word for word in EDGES if word < modulus] * 6 + [modulus]
            with self.subTest(kind=kind, seed=seed):
                self.agree(kind, modulus, words, f"{kind}.{seed}")

    def test_arithmetic_0(self):
        self.lines(0)

    def test_arithmetic_1(self):
        self.lines(1)

    def test_arithmetic_2(self):
        self.lines(2)

    def test_arithmetic_3(self):
        self.lines(3)

    def test_arithmetic_4(self):
        self.lines(4)

    def test_arithmetic_5(self):
        self.lines(5)

    def test_arithmetic_6(self):
        self.lines(6)

    def test_arithmetic_7(self):
        self.lines(7)


if __name__ == "__main__":
    unittest.main()
