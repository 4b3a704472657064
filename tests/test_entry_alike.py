"""The calls entry and alike, and the order in which they refuse."""

import unittest

from tests.helper import HALF, KINDS, TOP, alike, entry, told_with, value

A = (2, 3, [1, 2, 3, 4, 5, 6])
TOO_MUCH = [48, 18, HALF - 1, 18, 1]


class Entry(unittest.TestCase):
    def test_each_entry(self):
        for kind, modulus in KINDS:
            told = told_with(kind, modulus, [A], *[entry(row, column, 0) for row in range(2) for column in range(3)])
            self.assertEqual(told, [[0, word] for word in range(1, 7)])
            told = told_with(kind, modulus, [A], *[entry(row, column, 32, 0) for row in range(3) for column in range(2)])
            self.assertEqual(told, [[0, word] for word in (1, 4, 2, 5, 3, 6)])

    def test_no_such_entry(self):
        for kind, modulus in KINDS:
            places = [(2, 0), (0, 3), (2, 3), (1, 3), (TOP, 0), (0, TOP), (TOP, TOP), (HALF, HALF), (0, 6), (16, 16)]
            told = told_with(kind, modulus, [A], *[entry(row, column, 0) for row, column in places])
            self.assertEqual(told, [[-6]] * len(places))
            told = told_with(kind, modulus, [A], entry(2, 1, 32, 0), entry(1, 2, 32, 0), entry(2, 2, 32, 0))
            self.assertEqual(told, [[0, 6], [-6], [-6]])

    def test_the_whole_value_is_asked_for(self):
        row = (1, 2, [1, HALF - 1])
        self.assertEqual(told_with(2, 0, [row], entry(0, 0, 48, 0, 0)), [[-8, 0]])
        self.assertEqual(told_with(2, 0, [row], entry(0, 1, 37, 0, 1, 0, 1, 48, 0, 0)), [[-6]])
        self.assertEqual(told_with(2, 0, [row], entry(0, 0, 37, 0, 1, 0, 1, 48, 0, 0)), [[-8, 5]])
        self.assertEqual(told_with(1, 5, [(1, 2, [1, 5])], entry(0, 0, 0)), [[-7, 0]])

    def test_the_order(self):
        square = (2, 2, [1, 2, 3, 9])
        # Form, what's asked, no such entry, no number: each with all that come behind it.
        told = told_with(1, 5, [A, square], entry(9, 9, 50, 0, 0, 1), entry(9, 9, 50, 0, 0), entry(9, 9, 48, 1, 1),
                         entry(1, 2, 48, 1, 1), entry(2, 1, 48, 1, 1), entry(1, 1, 48, 1, 1), entry(1, 1, 49, 1, 1))
        self.assertEqual(told, [[-3, 3], [-4, 0], [-6], [-6], [-6], [-7, 1], [-7, 1]])
        told = told_with(2, 0, [A], entry(1, 0, *TOO_MUCH, 5), entry(1, 0, 50, *TOO_MUCH, 17, 2), entry(1, 0, *TOO_MUCH),
                         entry(0, 1, *TOO_MUCH), entry(0, 0, *TOO_MUCH))
        self.assertEqual(told, [[-3, 5], [-4, 0], [-6], [-6], [-8, 0]])

    def test_refused_places_of_its_own_expression(self):
        # The places count within x; i and j ahead of it don't.
        self.assertEqual(told_with(0, 0, [A], entry(7, 8, 32, 19)), [[-3, 1]])
        self.assertEqual(told_with(0, 0, [A], entry(7, 8, 32, 33, 0)), [[-4, 1]])


class Alike(unittest.TestCase):
    def told(self, kind, modulus, table, x, y):
        return told_with(kind, modulus, table, alike(x, y))[0]

    def test_one_value(self):
        for kind, modulus in KINDS:
            for x, y in ([0], [0]), ([0], [32, 32, 0]), ([34, 2, 17, 3], [17, 3]), ([18, 5], [37, 1, 1, 1, 1, 0]), \
                    ([48, 0, 16, 2, 3], [0]), ([50, 17, 2, 0], [0]), ([50, 0, 17, 3], [0]):
                self.assertEqual(self.told(kind, modulus, [A], x, y), [1], f"{x} and {y} in arithmetic {kind}")

    def test_the_first_entry_that_differs(self):
        for place in range(6):
            for further in range(place, 6):
                other = list(A[2])
                other[place] = other[further] = 9
                self.assertEqual(self.told(0, 0, [A, (2, 3, other)], [0], [1]), [0, 0, place // 3, place % 3])
                self.assertEqual(self.told(0, 0, [A, (2, 3, other)], [1], [0]), [0, 0, place // 3, place % 3])
                self.assertEqual(self.told(0, 0, [A, (2, 3, other)], [32, 0], [32, 1]),
                                 [0, 0, *min((at % 3, at // 3) for at in (place, further))])

    def test_the_last_entry_of_the_largest(self):
        words = [7] * 256
        words[255] = 8
        self.assertEqual(self.told(0, 0, [(16, 16, [7] * 256), (16, 16, words)], [0], [1]), [0, 0, 15, 15])

    def test_sizes_that_differ(self):
        for kind, modulus in KINDS:
            self.assertEqual(self.told(kind, modulus, [A], [0], [32, 0]), [0, 1, 2, 3])
            self.assertEqual(self.told(kind, modulus, [A], [32, 0], [0]), [0, 1, 3, 2])
            self.assertEqual(self.told(kind, modulus, [A], [17, 6], [16, 6, 5]), [0, 1, 6, 6])
            self.assertEqual(self.told(kind, modulus, [A], [16, 6, 1], [16, 1, 6]), [0, 1, 6, 1])
            self.assertEqual(self.told(kind, modulus, [A], [16, 2, 3], [16, 3, 3]), [0, 1, 2, 3])

    def test_what_is_one_value_in_one_arithmetic_alone(self):
        x, y = [48, 18, 5, 18, 5], [18, 5]
        self.assertEqual([self.told(kind, modulus, [], x, y) for kind, modulus in KINDS],
                         [[0, 0, 0, 0]] * 3 + [[1]] * 3 + [[0, 0, 0, 0]] * 2)
        self.assertEqual(self.told(1, 5, [], [48, 18, 4, 18, 1], [18, 0]), [1])
        self.assertEqual(self.told(1, 1, [], [17, 3], [16, 3, 3]), [1])
        self.assertEqual(self.told(3, 0, [], [55, 18, TOP - 1, 18, 5], [18, TOP]), [1])


class Order(unittest.TestCase):
    """Faults of x and y, the ones that are told first first."""

    FORM = [32, 19]
    ASKED = [32, 33, 0]
    NUMBER = [32, 18, 9]
    SIZE = [32, 16, 5, 1]
    FINE = [18, 1]
    FIT = [32, *TOO_MUCH]

    def told(self, kind, modulus, x, y):
        return told_with(kind, modulus, [A], alike(x, y))[0]

    def test_form_and_what_is_asked_of_x_then_of_y(self):
        for kind, modulus in (1, 5), (2, 0):
            others = [self.FORM, self.ASKED, self.NUMBER, self.FIT, self.SIZE, self.FINE]
            for other in others:
                self.assertEqual(self.told(kind, modulus, self.FORM, other), [-3, 1])
                self.assertEqual(self.told(kind, modulus, self.ASKED, other), [-4, 1])
            for other in others[2:]:
                self.assertEqual(self.told(kind, modulus, other, self.FORM), [-19, 1])
                self.assertEqual(self.told(kind, modulus, other, self.ASKED), [-20, 1])

    def test_sizes_that_differ_end_it(self):
        for kind, modulus, x in (1, 5, self.NUMBER), (1, 5, self.FINE), (2, 0, self.FIT), (2, 0, self.FINE):
            self.assertEqual(self.told(kind, modulus, x, self.SIZE), [0, 1, 1, 1])
            self.assertEqual(self.told(kind, modulus, self.SIZE, x), [0, 1, 1, 5])

    def test_words_of_x_then_of_y(self):
        self.assertEqual(self.told(1, 5, self.NUMBER, self.FINE), [-7, 1])
        self.assertEqual(self.told(1, 5, self.NUMBER, [48, 18, 9, 18, 9]), [-7, 1])
        self.assertEqual(self.told(1, 5, self.FINE, self.NUMBER), [-23, 1])
        self.assertEqual(self.told(1, 5, [48, 18, 1, 18, 9], [18, 9]), [-7, 3])
        self.assertEqual(self.told(1, 5, [18, 4], [48, 18, 4, 18, 9]), [-23, 3])

    def test_values_of_x_then_of_y(self):
        self.assertEqual(self.told(2, 0, self.FIT, self.FINE), [-8, 1])
        self.assertEqual(self.told(2, 0, self.FIT, TOO_MUCH), [-8, 1])
        self.assertEqual(self.told(2, 0, TOO_MUCH, self.FIT), [-8, 0])
        self.assertEqual(self.told(2, 0, self.FINE, self.FIT), [-24, 1])
        self.assertEqual(self.told(2, 0, self.FINE, [48, *self.FIT, *self.FIT]), [-24, 2])

    def test_refused_even_where_both_are_the_same_list(self):
        for kind, modulus, x, due in (1, 5, self.FORM, -3), (1, 5, self.ASKED, -4), (1, 5, self.NUMBER, -7), \
                (2, 0, self.FIT, -8):
            self.assertEqual(self.told(kind, modulus, x, x), [due, 1])

    def test_a_refusal_of_y_behind_entries_that_differ_already(self):
        # The first entry differs; the second one of y doesn't fit.
        table = [(1, 2, [1, HALF - 1])]
        self.assertEqual(told_with(2, 0, table, alike([0], [48, 0, 0])), [[-24, 0]])
        self.assertEqual(told_with(2, 0, table, alike([48, 0, 0], [0])), [[-8, 0]])

    def test_long_lists(self):
        self.assertEqual(self.told(0, 0, [0] * 513, [0]), [-3, 512])
        self.assertEqual(self.told(0, 0, [0], [0] * 513), [-19, 512])
        self.assertEqual(self.told(0, 0, [0] * 600, [0] * 600), [-3, 512])
        self.assertEqual(self.told(0, 0, [], []), [-3, 0])
        self.assertEqual(self.told(0, 0, [0], []), [-19, 0])


class Value(unittest.TestCase):
    def test_the_order(self):
        table = [A, (2, 2, [1, 2, 3, 9])]
        told = told_with(1, 5, table, value(50, 0, 1, 0), value(50, 1, 49, 0, 1), value(50, 1, 1), value(50, 1, 16, 2, 2))
        self.assertEqual(told, [[-3, 3], [-4, 2], [-7, 1], [-7, 1]])


if __name__ == "__main__":
    unittest.main()
