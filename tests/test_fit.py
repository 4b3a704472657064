"""Arithmetic 2: what must fit is each entry of each operation's value, not what's on the way."""

import unittest

from tests.helper import HALF, TOP, told_with, value

QUARTER = 2 ** 62
LESS = TOP + 1 - QUARTER
MOST = HALF - 1


class Fit(unittest.TestCase):
    def fits(self, table, x, *due):
        self.assertEqual(told_with(2, 0, table, value(*x)), [[0, *due]], x)

    def refused(self, table, x, place=0):
        self.assertEqual(told_with(2, 0, table, value(*x)), [[-8, place]], x)


class Sums(Fit):
    def test_products(self):
        self.fits([(1, 3, [QUARTER, QUARTER, LESS]), (3, 1, [1, 1, 1])], [50, 0, 1], 1, 1, QUARTER)
        self.fits([(1, 3, [LESS, QUARTER, QUARTER]), (3, 1, [1, 1, 1])], [50, 0, 1], 1, 1, QUARTER)
        self.fits([(1, 3, [HALF, HALF, TOP]), (3, 1, [HALF, MOST, 1])], [50, 0, 1], 1, 1, MOST)
        self.refused([(1, 2, [HALF, HALF]), (2, 1, [HALF, MOST])], [50, 0, 1])
        self.refused([(1, 2, [QUARTER, QUARTER]), (2, 1, [1, 1])], [50, 0, 1])
        self.fits([(1, 3, [QUARTER, QUARTER, TOP]), (3, 1, [1, 1, 1])], [50, 0, 1], 1, 1, MOST)
        self.fits([(1, 2, [LESS, LESS]), (2, 1, [1, 1])], [50, 0, 1], 1, 1, HALF)
        self.refused([(1, 3, [LESS, LESS, TOP]), (3, 1, [1, 1, 1])], [50, 0, 1])

    def test_each_entry_of_a_product_must_fit(self):
        for row in range(2):
            for column in range(3):
                left, right = [1, 1], [1, 1, 1]
                left[row], right[column] = 2 ** 32, 2 ** 31
                table = [(2, 1, left), (1, 3, right)]
                self.refused(table, [50, 0, 1])
                right[column] = 2 ** 31 - 1
                self.assertEqual(told_with(2, 0, [(2, 1, left), (1, 3, right)], value(50, 0, 1))[0][0], 0)

    def test_the_diagonal(self):
        self.fits([(3, 3, [QUARTER, 0, 0, 0, QUARTER, 0, 0, 0, LESS])], [33, 0], 1, 1, QUARTER)
        self.fits([(3, 3, [MOST, 0, 0, 0, 1, 0, 0, 0, TOP])], [33, 0], 1, 1, MOST)
        self.fits([(2, 2, [MOST, MOST, MOST, HALF])], [33, 0], 1, 1, TOP)
        self.refused([(2, 2, [MOST, 0, 0, 1])], [33, 0])
        self.refused([(2, 2, [HALF, 0, 0, TOP])], [33, 0])

    def test_determinants(self):
        # Both products are far beyond, their difference isn't.
        self.fits([(2, 2, [MOST, MOST - 1, MOST, MOST])], [36, 0], 1, 1, MOST)
        self.fits([(2, 2, [HALF, MOST, HALF, MOST])], [36, 0], 1, 1, 0)
        self.fits([(2, 2, [HALF, 1, 0, 1])], [36, 0], 1, 1, HALF)
        self.refused([(2, 2, [HALF, 0, 0, TOP])], [36, 0])
        self.refused([(2, 2, [0, HALF, 1, 0])], [36, 0])
        self.refused([(2, 2, [MOST, 0, 0, 2])], [36, 0])
        self.refused([(3, 3, [2 ** 21, 0, 0, 0, 2 ** 21, 0, 0, 0, 2 ** 21])], [36, 0])
        self.fits([(3, 3, [2 ** 21, 0, 0, 0, 2 ** 21, 0, 0, 0, TOP + 1 - 2 ** 21])], [36, 0], 1, 1, HALF)
        self.fits([(6, 6, [MOST] * 36)], [36, 0], 1, 1, 0)


class EntryByEntry(Fit):
    def test_48(self):
        self.fits([], [48, 18, MOST, 18, 0], 1, 1, MOST)
        self.fits([], [48, 18, MOST, 18, HALF], 1, 1, TOP)
        self.fits([], [48, 18, LESS, 18, LESS], 1, 1, HALF)
        self.refused([], [48, 18, MOST, 18, 1])
        self.refused([], [48, 18, HALF, 18, TOP])
        self.refused([(1, 3, [1, 2, MOST])], [48, 0, 0])

    def test_49(self):
        self.fits([], [49, 18, HALF, 18, 0], 1, 1, HALF)
        self.fits([], [49, 18, TOP, 18, HALF], 1, 1, MOST)
        self.fits([], [49, 18, 0, 18, MOST], 1, 1, HALF + 1)
        self.refused([], [49, 18, HALF, 18, 1])
        self.refused([], [49, 18, 0, 18, HALF])
        self.refused([], [49, 18, MOST, 18, TOP])

    def test_51(self):
        self.fits([(1, 2, [2 ** 32, 3]), (1, 2, [2 ** 31 - 1, 3])], [51, 0, 1], 1, 2, 2 ** 63 - 2 ** 32, 9)
        self.refused([(1, 2, [2 ** 32, 3]), (1, 2, [2 ** 31, 3])], [51, 0, 1])
        self.fits([(1, 2, [2 ** 32, 3]), (1, 2, [TOP + 1 - 2 ** 31, 3])], [51, 0, 1], 1, 2, HALF, 9)
        self.refused([(1, 2, [3, HALF]), (1, 2, [3, TOP])], [51, 0, 1])

    def test_52(self):
        self.fits([(1, 2, [1, 2])], [52, 0, 18, QUARTER - 1], 1, 2, QUARTER - 1, HALF - 2)
        self.refused([(1, 2, [1, 2])], [52, 0, 18, QUARTER])
        self.fits([(1, 2, [1, 2])], [52, 0, 18, LESS], 1, 2, LESS, HALF)
        self.refused([], [52, 18, HALF, 18, TOP])

    def test_55(self):
        self.fits([(2, 1, [1, QUARTER - 1])], [55, 18, 2, 0], 2, 1, 2, HALF - 2)
        self.refused([(2, 1, [1, QUARTER])], [55, 18, 2, 0])
        self.fits([(2, 1, [1, LESS])], [55, 18, 2, 0], 2, 1, 2, HALF)

    def test_those_that_only_move_entries_always_fit(self):
        edges = (2, 2, [HALF, MOST, TOP, 0])
        self.fits([edges], [0], 2, 2, HALF, MOST, TOP, 0)
        self.fits([edges], [32, 0], 2, 2, HALF, TOP, MOST, 0)
        self.fits([edges], [37, 0, 1, 0, 2, 0], 1, 2, HALF, MOST)
        self.fits([edges], [53, 0, 0], 2, 4, HALF, MOST, HALF, MOST, TOP, 0, TOP, 0)
        self.fits([edges], [54, 0, 0], 4, 2, HALF, MOST, TOP, 0, HALF, MOST, TOP, 0)


class OnTheWay(Fit):
    def test_powers(self):
        self.fits([], [34, 62, 18, 2], 1, 1, QUARTER)
        self.refused([], [34, 63, 18, 2])
        self.refused([], [34, 64, 18, 2])
        self.fits([], [34, 63, 18, TOP - 1], 1, 1, HALF)
        self.refused([], [34, 64, 18, TOP - 1])
        self.fits([], [34, 64, 18, TOP], 1, 1, 1)
        self.fits([], [34, 1, 18, HALF], 1, 1, HALF)
        self.refused([], [34, 2, 18, HALF])
        self.fits([], [34, 0, 18, HALF], 1, 1, 1)

    def test_a_power_on_the_way(self):
        # x x doesn't fit, x x x is nothing again.
        lost = (3, 3, [0, HALF, 0, 0, 0, HALF, 0, 0, 0])
        self.fits([lost], [34, 1, 0], 3, 3, 0, HALF, 0, 0, 0, HALF, 0, 0, 0)
        self.refused([lost], [34, 2, 0])
        self.refused([lost], [34, 3, 0])
        self.refused([lost], [34, 64, 0])
        later = (4, 4, [0, 2 ** 21, 0, 0, 0, 0, 2 ** 21, 0, 0, 0, 0, 2 ** 21, 0, 0, 0, 0])
        self.assertEqual(told_with(2, 0, [later], value(34, 2, 0))[0][0], 0)
        self.refused([later], [34, 3, 0])
        self.refused([later], [34, 4, 0])

    def test_squares_pass_over_no_power(self):
        # x^4 is nothing while x^3 doesn't fit, and no square is that power.
        later = (4, 4, [0, 2 ** 21, 0, 0, 0, 0, 2 ** 21, 0, 0, 0, 0, 2 ** 21, 0, 0, 0, 0])
        self.fits([later], [50, 50, 0, 0, 50, 0, 0], 4, 4, *[0] * 16)
        self.refused([later], [34, 8, 0])

    def test_a_part_of_a_power_need_not_fit(self):
        # x x has 2^62 + 2^62 - 2^62 in it.
        table = [(4, 4, [0, QUARTER, QUARTER, LESS, 0, 1, 0, 0, 0, 1, 0, 0, 0, 1, 0, 0])]
        self.fits(table, [34, 2, 0], 4, 4, 0, QUARTER, 0, 0, 0, 1, 0, 0, 0, 1, 0, 0, 0, 1, 0, 0)

    def test_each_s_of_the_closure(self):
        self.refused([(2, 2, [MOST, 0, 0, 0])], [35, 0])
        self.fits([(1, 1, [MOST])], [35, 0], 1, 1, 1)
        self.fits([(2, 2, [HALF, 0, 0, 0])], [35, 0], 2, 2, HALF + 1, 0, 0, 1)
        self.fits([(2, 2, [MOST - 1, 0, 0, 0])], [35, 0], 2, 2, MOST, 0, 0, 1)
        self.fits([(2, 2, [0, MOST, 0, 0])], [35, 0], 2, 2, 1, MOST, 0, 1)
        self.refused([(3, 3, [MOST, 0, 0, 0, 0, 0, 0, 0, 0])], [35, 0])

    def test_an_s_on_the_way(self):
        # S2 is one plus x, 2^63 at (0, 0); S3 is one plus x x plus x and would fit.
        least = TOP + 1 - MOST
        table = [(3, 3, [MOST, MOST, 1, least, least, 0, TOP, 0, TOP])]
        self.fits(table, [48, 48, 17, 3, 50, 0, 0, 0], 3, 3, MOST, MOST, MOST, least, least + 1, least, least, least, 0)
        self.refused(table, [48, 17, 3, 0])
        self.refused(table, [35, 0])

    def test_the_last_s(self):
        self.refused([(3, 3, [2, 2 ** 32, 0, 2 ** 31, 0, 0, 0, 0, 0])], [35, 0])
        self.fits([(3, 3, [2, 2 ** 32, 0, TOP + 1 - 2 ** 31, 0, 0, 0, 0, 0])], [35, 0], 3, 3,
                  7 - 2 ** 63 + 2 ** 64, 3 * 2 ** 32, 0, 2 ** 64 - 3 * 2 ** 31, 1 - 2 ** 63 + 2 ** 64, 0, 0, 0, 1)

    def test_x_times_s_need_not_fit(self):
        # x x is -2^63 - 1 at (0, 0) and (1, 1); one more fits.
        left = 3 ** 3 * 19 * 43 * 5419
        right = 77158673929
        self.assertEqual(left * right, 2 ** 63 + 1)
        table = [(3, 3, [0, left, 0, TOP + 1 - right, 0, 0, 0, 0, 0])]
        self.refused(table, [50, 0, 0])
        self.fits(table, [35, 0], 3, 3, HALF, left, 0, TOP + 1 - right, HALF, 0, 0, 0, 1)


if __name__ == "__main__":
    unittest.main()
