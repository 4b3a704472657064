"""The third promise as far as plus, minus and times reach it, and what none and one are."""

import unittest

from gridtalk.arithmetics import Arithmetic, meaning_of, none_of, one_of, plus, times, word_of
from tests.helper import EDGES, HALF, KINDS, MINUS, PLUS, TIMES, TOP, ask_each

FEW = [0, 1, 2, 3, 96, 2 ** 32 - 1, 2 ** 62, HALF - 1, HALF, 0xDEADBEEFCAFEF00D, TOP]
MORE_KINDS = KINDS + [(1, 1), (1, HALF - 1), (7, 0), (7, HALF), (7, TOP)]


class Asked:
    """Plus, minus and times of one arithmetic, as the program answers them, for many words at once."""

    def __init__(self, kind, modulus):
        self.kind = kind
        self.modulus = modulus

    def each(self, call, left, right):
        """The words of what comes out, and None where one of both has none or what comes out doesn't."""
        pairs = [(x, y) for x, y in zip(left, right, strict=True) if x is not None and y is not None]
        told = iter(ask_each(self.kind, self.modulus, [[call, x, y] for x, y in pairs]))
        return [None if x is None or y is None else self.word(next(told)) for x, y in zip(left, right)]

    def word(self, answer):
        return answer[1] if answer[0] == 0 else None


class Laws(unittest.TestCase):
    def same(self, kind, left, right):
        """Both the same wherever both fit; in all arithmetics but 2 both always do."""
        both = [(x, y) for x, y in zip(left, right, strict=True) if x is not None and y is not None]
        self.assertGreater(len(both), 0)
        if kind != 2:
            self.assertEqual(len(both), len(left))
        self.assertEqual([x for x, y in both], [y for x, y in both])

    def triples(self, kind, modulus):
        words = [word for word in FEW if kind != 1 or word < modulus]
        every = [(x, y, z) for x in words for y in words for z in words]
        return [list(column) for column in zip(*every)]

    def test_products_and_sums_associate(self):
        for kind, modulus in MORE_KINDS:
            asked = Asked(kind, modulus)
            x, y, z = self.triples(kind, modulus)
            for call in (TIMES, PLUS):
                with self.subTest(kind=kind, modulus=modulus, call=call):
                    left = asked.each(call, asked.each(call, x, y), z)
                    right = asked.each(call, x, asked.each(call, y, z))
                    self.same(kind, left, right)

    def test_products_spread_over_sums(self):
        for kind, modulus in MORE_KINDS:
            with self.subTest(kind=kind, modulus=modulus):
                asked = Asked(kind, modulus)
                x, y, z = self.triples(kind, modulus)
                left = asked.each(TIMES, x, asked.each(PLUS, y, z))
                right = asked.each(PLUS, asked.each(TIMES, x, y), asked.each(TIMES, x, z))
                self.same(kind, left, right)

    def test_sums_and_products_turn(self):
        for kind, modulus in MORE_KINDS:
            with self.subTest(kind=kind, modulus=modulus):
                asked = Asked(kind, modulus)
                x, y, z = self.triples(kind, modulus)
                for call in (PLUS, TIMES):
                    self.same(kind, asked.each(call, x, y), asked.each(call, y, x))

    def test_minus_takes_plus_back(self):
        for kind, modulus in MORE_KINDS:
            if kind not in (3, 4, 5):
                with self.subTest(kind=kind, modulus=modulus):
                    asked = Asked(kind, modulus)
                    x, y, z = self.triples(kind, modulus)
                    back = asked.each(MINUS, asked.each(PLUS, x, y), y)
                    self.same(kind, back, x)


class NoneAndOne(unittest.TestCase):
    def test_they_leave_each_number_alone(self):
        for kind, modulus in MORE_KINDS:
            arithmetic = Arithmetic(kind, modulus)
            for word in EDGES:
                if kind != 1 or word < modulus:
                    with self.subTest(kind=kind, modulus=modulus, word=word):
                        meaning = meaning_of(arithmetic, word)
                        added = plus(arithmetic, none_of(arithmetic), meaning)
                        self.assertEqual(word_of(arithmetic, added), word)
                        multiplied = times(arithmetic, one_of(arithmetic), meaning)
                        self.assertEqual(word_of(arithmetic, multiplied), word)

    def test_their_words(self):
        words = [(word_of(arithmetic, none_of(arithmetic)), word_of(arithmetic, one_of(arithmetic)))
                 for arithmetic in [Arithmetic(kind, modulus) for kind, modulus in KINDS]]
        self.assertEqual(words, [(0, 1), (0, 1), (0, 1), (TOP, 0), (0, TOP), (0, TOP), (0, TOP), (0, 1)])

    def test_modulo_1_one_is_0(self):
        self.assertEqual(word_of(Arithmetic(1, 1), one_of(Arithmetic(1, 1))), 0)

    def test_on_the_way_nothing_has_to_fit(self):
        signed = Arithmetic(2, 0)
        there = plus(signed, plus(signed, 2 ** 62, 2 ** 62), -(2 ** 62))
        self.assertEqual(word_of(signed, there), 2 ** 62)


if __name__ == "__main__":
    unittest.main()
