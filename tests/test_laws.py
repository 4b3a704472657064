"""The third promise, of words and of matrices, and what none and one are."""

import unittest

from gridtalk.arithmetics import Arithmetic, meaning_of, none_of, one_of, plus, times, word_of
from tests.helper import EDGES, HALF, KINDS, MINUS, PLUS, TIMES, TOP, alike, ask_each, told_with

FEW = [0, 1, 2, 3, 96, 2 ** 32 - 1, 2 ** 62, HALF - 1, HALF, 0xDEADBEEFCAFEF00D, TOP]
MORE_KINDS = KINDS + [(1, 1), (1, HALF - 1), (7, 0), (7, HALF), (7, TOP)]


class Asked:
    """Plus, minus and times of one arithmetic, as the program answers them, for many words at once."""

    def __init__(self, kind, modulus):
        self.kind = kind
        self.modulus = modulus

    def each(self, call, left, right):
        """The words of what comes out, and None where one of both has none or what comes out doesn't."""
        pairs = [(x, y) for x, y in zip(left, right, strict=True) if x is not None and y is not None]
        told = iter(ask_each(self.kind, self.modulus, [[call, x, y] for x, y in pairs]))
        return [None if x is None or y is None else self.word(next(told)) for x, y in zip(left, right)]

    def word(self, answer):
        return answer[1] if answer[0] == 0 else None


class Laws(unittest.TestCase):
    def same(self, kind, left, right):
        """Both the same wherever both fit; in all arithmetics but 2 both always do."""
        both = [(x, y) for x, y in zip(left, right, strict=True) if x is not None and y is not None]
        self.assertGreater(len(both), 0)
        if kind != 2:
            self.assertEqual(len(both), len(left))
        self.assertEqual([x for x, y in both], [y for x, y in both])

    def triples(self, kind, modulus):
        words = [word for word in FEW if kind != 1 or word < modulus]
        every = [(x, y, z) for x in words for y in words for z in words]
        return [list(column) for column in zip(*every)]

    def test_products_and_sums_associate(self):
        for kind, modulus in MORE_KINDS:
            asked = Asked(kind, modulus)
            x, y, z = self.triples(kind, modulus)
            for call in (TIMES, PLUS):
                with self.subTest(kind=kind, modulus=modulus, call=call):
                    left = asked.each(call, asked.each(call, x, y), z)
                    right = asked.each(call, x, asked.each(call, y, z))
                    self.same(kind, left, right)

    def test_products_spread_over_sums(self):
        for kind, modulus in MORE_KINDS:
            with self.subTest(kind=kind, modulus=modulus):
                asked = Asked(kind, modulus)
                x, y, z = self.triples(kind, modulus)
                left = asked.each(TIMES, x, asked.each(PLUS, y, z))
                right = asked.each(PLUS, asked.each(TIMES, x, y), asked.each(TIMES, x, z))
                self.same(kind, left, right)

    def test_sums_and_products_turn(self):
        for kind, modulus in MORE_KINDS:
            with self.subTest(kind=kind, modulus=modulus):
                asked = Asked(kind, modulus)
                x, y, z = self.triples(kind, modulus)
                for call in (PLUS, TIMES):
                    self.same(kind, asked.each(call, x, y), asked.each(call, y, x))

    def test_minus_takes_plus_back(self):
        for kind, modulus in MORE_KINDS:
            if kind not in (3, 4, 5):
                with self.subTest(kind=kind, modulus=modulus):
                    asked = Asked(kind, modulus)
                    x, y, z = self.triples(kind, modulus)
                    back = asked.each(MINUS, asked.each(PLUS, x, y), y)
                    self.same(kind, back, x)


class MatrixLaws(unittest.TestCase):
    """Over matrices of the edges; in arithmetic 2, where these mostly don't fit, of small numbers."""

    def tables(self, kind, modulus):
        words = [0, 1, 2, TOP, 3, TOP - 1, 5] if kind == 2 else EDGES
        for start in range(len(words)):
            table = []
            for rows, columns in ((2, 3), (3, 4), (4, 2), (3, 3), (3, 3), (3, 3), (5, 5), (5, 5)):
                entries = []
                for place in range(rows * columns):
                    entries.append(words[(start + place * (len(table) + 2) + len(table)) % len(words)])
                table.append((rows, columns, [word % modulus if kind == 1 else word for word in entries]))
            yield table

    def hold(self, pairs, kinds=range(8)):
        for kind, modulus in MORE_KINDS:
            if kind in kinds:
                for table in self.tables(kind, modulus):
                    told = told_with(kind, modulus, table, *[alike(x, y) for x, y in pairs])
                    self.assertEqual(told, [[1]] * len(pairs), f"arithmetic {kind}, m {modulus}, {table}")

    def test_products_associate(self):
        self.hold([([50, 50, 0, 1, 2], [50, 0, 50, 1, 2]), ([50, 50, 3, 4, 5], [50, 3, 50, 4, 5])])

    def test_turned_products(self):
        self.hold([([32, 50, 0, 1], [50, 32, 1, 32, 0]), ([32, 50, 3, 4], [50, 32, 4, 32, 3])])

    def test_powers_add(self):
        sums = [(0, 0), (0, 1), (1, 1), (2, 3), (4, 1), (5, 6)]
        self.hold([([34, a + b, 3], [50, 34, a, 3, 34, b, 3]) for a, b in sums])

    def test_powers_add_up_to_64(self):
        self.hold([([34, a + b, 3], [50, 34, a, 3, 34, b, 3]) for a, b in [(31, 33), (32, 32), (1, 63), (60, 3)]],
                  (0, 1, 3, 4, 5, 6, 7))

    def test_products_spread_over_sums(self):
        self.hold([([50, 3, 48, 4, 5], [48, 50, 3, 4, 50, 3, 5]), ([50, 48, 4, 5, 3], [48, 50, 4, 3, 50, 5, 3])])

    def test_the_closure_is_one_plus_x_times_it(self):
        for x in (3, 6, 7):
            self.hold([([35, x], [48, 17, 3 if x == 3 else 5, 50, x, 35, x])], (3, 4, 5))

    def test_determinants_multiply(self):
        self.hold([([36, 50, 3, 4], [50, 36, 3, 36, 4])], (0, 1, 2, 6, 7))
        self.hold([([36, 50, 6, 7], [50, 36, 6, 36, 7])], (0, 1, 6, 7))

    def test_determinants_of_turned_ones(self):
        self.hold([([36, 6], [36, 32, 6]), ([36, 34, 0, 6], [17, 1])], (0, 1, 2, 6, 7))


class NoneAndOne(unittest.TestCase):
    def test_they_leave_each_number_alone(self):
        for kind, modulus in MORE_KINDS:
            arithmetic = Arithmetic(kind, modulus)
            for word in EDGES:
                if kind != 1 or word < modulus:
                    with self.subTest(kind=kind, modulus=modulus, word=word):
                        meaning = meaning_of(arithmetic, word)
                        added = plus(arithmetic, none_of(arithmetic), meaning)
                        self.assertEqual(word_of(arithmetic, added), word)
                        multiplied = times(arithmetic, one_of(arithmetic), meaning)
                        self.assertEqual(word_of(arithmetic, multiplied), word)

    def test_their_words(self):
        words = [(word_of(arithmetic, none_of(arithmetic)), word_of(arithmetic, one_of(arithmetic)))
                 for arithmetic in [Arithmetic(kind, modulus) for kind, modulus in KINDS]]
        self.assertEqual(words, [(0, 1), (0, 1), (0, 1), (TOP, 0), (0, TOP), (0, TOP), (0, TOP), (0, 1)])

    def test_modulo_1_one_is_0(self):
        self.assertEqual(word_of(Arithmetic(1, 1), one_of(Arithmetic(1, 1))), 0)

    def test_on_the_way_nothing_has_to_fit(self):
        signed = Arithmetic(2, 0)
        there = plus(signed, plus(signed, 2 ** 62, 2 ** 62), -(2 ** 62))
        self.assertEqual(word_of(signed, there), 2 ** 62)


if __name__ == "__main__":
    unittest.main()
