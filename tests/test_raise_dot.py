"""The calls raise and dot."""

import unittest

from tests.helper import DOT, EDGES, HALF, KINDS, RAISE, TOP, Plain, ask, ask_each, dot, last

MORE_KINDS = KINDS + [(1, 1), (1, 6), (1, HALF - 1), (7, 0), (7, TOP)]


class Raise(unittest.TestCase):
    def raised(self, kind, modulus, word, exponent):
        return last(kind, modulus, RAISE, word, exponent)

    def due(self, kind, modulus, word, exponent):
        plain = Plain(kind, modulus, [])
        if kind == 1 and word >= modulus:
            return [-7]
        result = plain.one
        for _ in range(exponent):
            result = plain.times(result, plain.meaning(word))
            result = plain.word(result) if kind == 7 else result
        told = plain.word(result)
        return [-8] if told is None else [0, told]

    def test_all_edges(self):
        for kind, modulus in MORE_KINDS:
            pairs = [(word, exponent) for word in EDGES for exponent in (0, 1, 2, 3, 5, 31, 62, 63, 64)]
            told = ask_each(kind, modulus, [[RAISE, *pair] for pair in pairs])
            for pair, answer in zip(pairs, told, strict=True):
                self.assertEqual(answer, self.due(kind, modulus, *pair), f"{pair} in {kind}, m {modulus}")

    def test_1000(self):
        for kind, modulus in MORE_KINDS:
            for word in (0, 1, 2, 96, HALF + 1, TOP):
                self.assertEqual(self.raised(kind, modulus, word, 1000), self.due(kind, modulus, word, 1000),
                                 f"{word} in {kind}, m {modulus}")

    def test_known_powers(self):
        self.assertEqual(self.raised(0, 0, 3, 40), [0, 3 ** 40 % 2 ** 64])
        self.assertEqual(self.raised(0, 0, 2, 63), [0, HALF])
        self.assertEqual(self.raised(0, 0, 2, 64), [0, 0])
        self.assertEqual(self.raised(1, 97, 5, 96), [0, 1])
        self.assertEqual(self.raised(1, 6, 2, 1000), [0, 4])
        self.assertEqual(self.raised(3, 0, 7, 1000), [0, 7000])
        self.assertEqual(self.raised(3, 0, 2 ** 60, 16), [0, TOP])
        self.assertEqual(self.raised(3, 0, TOP, 1), [0, TOP])
        self.assertEqual(self.raised(4, 0, 7, 1000), [0, 7])
        self.assertEqual(self.raised(5, 0, 7, 3), [0, 7])
        self.assertEqual(self.raised(6, 0, 7, 2), [0, 7])
        self.assertEqual(self.raised(7, 27, 2, 63), [0, HALF])
        self.assertEqual(self.raised(7, 27, 2, 64), [0, 27])
        self.assertEqual(self.raised(7, 27, 3, 2), [0, 5])
        self.assertEqual(self.raised(7, 0, 2, 64), [0, 0])

    def test_the_power_0_is_one(self):
        ones = [1, 1, 1, 0, TOP, TOP, TOP, 1]
        for kind, modulus in KINDS:
            for word in (0, 1, 5):
                self.assertEqual(self.raised(kind, modulus, word, 0), [0, ones[kind]])
        self.assertEqual(self.raised(1, 1, 0, 0), [0, 0])

    def test_only_the_end_must_fit(self):
        self.assertEqual(self.raised(2, 0, 2, 62), [0, 2 ** 62])
        self.assertEqual(self.raised(2, 0, 2, 63), [-8])
        self.assertEqual(self.raised(2, 0, TOP - 1, 63), [0, HALF])
        self.assertEqual(self.raised(2, 0, TOP - 1, 64), [-8])
        self.assertEqual(self.raised(2, 0, TOP, 999), [0, TOP])
        self.assertEqual(self.raised(2, 0, TOP, 1000), [0, 1])
        self.assertEqual(self.raised(2, 0, HALF, 1), [0, HALF])
        self.assertEqual(self.raised(2, 0, HALF, 2), [-8])
        self.assertEqual(self.raised(2, 0, HALF, 1000), [-8])

    def test_above_1000(self):
        for kind, modulus in KINDS:
            for exponent in (1001, 1002, HALF, TOP):
                for word in (0, 1, TOP):
                    self.assertEqual(self.raised(kind, modulus, word, exponent), [-6])

    def test_of_several_refusals_the_nearest_to_0(self):
        self.assertEqual(self.raised(1, 5, 5, 1001), [-6])
        self.assertEqual(self.raised(1, 5, 5, 1000), [-7])
        self.assertEqual(self.raised(1, 5, 5, 0), [-7])
        self.assertEqual(self.raised(1, 5, 4, 1001), [-6])
        self.assertEqual(self.raised(2, 0, 2, 1001), [-6])


class Dot(unittest.TestCase):
    def dotted(self, kind, modulus, x, y):
        return last(kind, modulus, *dot(x, y))

    def test_no_numbers(self):
        for kind, modulus in KINDS:
            self.assertEqual(self.dotted(kind, modulus, [], []), [0, TOP if kind == 3 else 0])

    def test_against_the_words(self):
        x, y = EDGES, EDGES[5:] + EDGES[:5]
        for kind, modulus in MORE_KINDS:
            left, right = x, y
            if kind == 1:
                left, right = [word % modulus for word in x], [word % modulus for word in y]
            plain = Plain(kind, modulus, [])
            for length in range(len(left) + 1):
                due = plain.word(plain.sum(plain.times(plain.meaning(one), plain.meaning(other))
                                           for one, other in zip(left[:length], right[:length])))
                self.assertEqual(self.dotted(kind, modulus, left[:length], right[:length]),
                                 [-8] if due is None else [0, due], f"{length} in {kind}, m {modulus}")

    def test_known_sums(self):
        dues = [27, 27, 27, 4, 3, 3, 1, 15]
        for kind, modulus in KINDS:
            self.assertEqual(self.dotted(kind, modulus, [3, 2, 3], [1, 3, 6]), [0, dues[kind]], kind)

    def test_600_numbers(self):
        self.assertEqual(self.dotted(0, 0, [TOP] * 600, [TOP] * 600), [0, 600])
        self.assertEqual(self.dotted(2, 0, [1] * 600, range(600)), [0, 600 * 599 // 2])
        self.assertEqual(self.dotted(7, 27, [HALF] * 599, [2] * 599), [0, 27])

    def test_the_sum_is_meant_whole(self):
        quarter = 2 ** 62
        self.assertEqual(self.dotted(2, 0, [quarter, quarter, TOP + 1 - quarter], [1, 1, 1]), [0, quarter])
        self.assertEqual(self.dotted(2, 0, [HALF, HALF], [HALF, HALF - 1]), [-8])
        self.assertEqual(self.dotted(2, 0, [HALF, HALF, TOP], [HALF, HALF - 1, 1]), [0, HALF - 1])
        self.assertEqual(self.dotted(2, 0, [quarter, quarter], [1, 1]), [-8])
        self.assertEqual(self.dotted(2, 0, [quarter, quarter, TOP], [1, 1, 1]), [0, HALF - 1])
        self.assertEqual(self.dotted(3, 0, [TOP, 5], [TOP, TOP]), [0, TOP])

    def test_different_lengths(self):
        for kind, modulus in KINDS:
            for x, y in ([1], []), ([], [1]), ([1, 2], [1]), ([1] * 599, [1] * 600), ([TOP], [TOP, TOP]):
                self.assertEqual(self.dotted(kind, modulus, x, y), [-6])

    def test_words_that_are_no_numbers(self):
        self.assertEqual(self.dotted(1, 5, [4, 4], [4, 5]), [-7])
        self.assertEqual(self.dotted(1, 5, [5, 4], [0, 4]), [-7])
        self.assertEqual(self.dotted(1, 5, [5], [0, 4]), [-6])
        self.assertEqual(self.dotted(1, 5, [4, 4], [4, 3]), [0, 3])
        self.assertEqual(self.dotted(1, 1, [0, 0], [0, 0]), [0, 0])
        self.assertEqual(self.dotted(1, 1, [1], [0]), [-7])

    def test_both_lists_are_read_to_their_ends(self):
        told = ask([DOT, 1, 5, 3, 3, 4, 5], [DOT, 2, 1, 1, 2, 3, 4], [RAISE, 2, 1001], [RAISE, 2, 5])
        self.assertEqual(told, [[-6], [0, 7], [-6], [0, 32]])


if __name__ == "__main__":
    unittest.main()
