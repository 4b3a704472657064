"""The eight arithmetics: which words are numbers, what a word means, and how meanings are put together.

Operations take and give meanings, which are whole and may be of any size. Only word_of brings what
comes out back to a word, so nothing that's on the way has to fit.
"""

from gridtalk.polynomials import polynomial_product
from gridtalk.words import HALF_OF_WORDS, LAST_WORD, WORDS

WRAPPING = 0
MODULAR = 1
SIGNED = 2
WAYS = 3
POLYNOMIALS = 7


class Arithmetic:
    """One arithmetic: its row in the table (kind) and its m (modulus)."""

    def __init__(self, kind, modulus):
        self.kind = kind
        self.modulus = modulus


def whole_sum(x, y):
    return x + y


def whole_difference(x, y):
    return x - y


def whole_product(x, y):
    return x * y


def lesser(x, y):
    return x if x < y else y


def greater(x, y):
    return x if x > y else y


def either(x, y):
    return x | y


def both(x, y):
    return x & y


def just_one(x, y):
    return x ^ y


def sum_of_all(meanings):
    return sum(meanings)


def least_of_all(meanings):
    return min(meanings, default=LAST_WORD)


def greatest_of_all(meanings):
    return max(meanings, default=0)


def any_of_all(meanings):
    total = 0
    for meaning in meanings:
        total = total | meaning
    return total


def odd_of_all(meanings):
    total = 0
    for meaning in meanings:
        total = total ^ meaning
    return total


# A row for each kind, in the order of the kinds; the last kind's times asks for its m and isn't here.
PLUS = (whole_sum, whole_sum, whole_sum, lesser, greater, either, just_one, just_one)
SUMS = (sum_of_all, sum_of_all, sum_of_all, least_of_all, greatest_of_all, any_of_all, odd_of_all, odd_of_all)
TIMES = (whole_product, whole_product, whole_product, whole_sum, lesser, both, both)
MINUS = (whole_difference, whole_difference, whole_difference, None, None, None, just_one, just_one)
NONE = (0, 0, 0, 18446744073709551615, 0, 0, 0, 0)
ONE = (1, 1, 1, 0, 18446744073709551615, 18446744073709551615, 18446744073709551615, 1)


def is_arithmetic(kind, modulus):
    if kind == MODULAR:
        return 1 <= modulus < HALF_OF_WORDS
    if kind == POLYNOMIALS:
        return True
    return kind < POLYNOMIALS and modulus == 0


def has_number(arithmetic, word):
    return arithmetic.kind != MODULAR or word < arithmetic.modulus


def are_numbers(arithmetic, words):
    return all([has_number(arithmetic, word) for word in words])


def meaning_of(arithmetic, word):
    if arithmetic.kind == SIGNED and word >= HALF_OF_WORDS:
        return word - WORDS
    return word


def meanings_of(arithmetic, words):
    return [meaning_of(arithmetic, word) for word in words]


def word_of(arithmetic, meaning):
    """The word of a meaning that came out, None where it doesn't fit."""
    if arithmetic.kind == WRAPPING:
        return meaning % WORDS
    if arithmetic.kind == MODULAR:
        return meaning % arithmetic.modulus
    if arithmetic.kind == SIGNED:
        return meaning % WORDS if -HALF_OF_WORDS <= meaning < HALF_OF_WORDS else None
    if arithmetic.kind == WAYS:
        return min(meaning, LAST_WORD)
    return meaning


def words_of(arithmetic, meanings):
    """The words of all that came out, None where one of them doesn't fit."""
    words = [word_of(arithmetic, meaning) for meaning in meanings]
    return None if None in words else words


def always_fits(arithmetic):
    return arithmetic.kind != SIGNED


def plus(arithmetic, x, y):
    return PLUS[arithmetic.kind](x, y)


def sum_of(arithmetic, meanings):
    return SUMS[arithmetic.kind](meanings)


def times(arithmetic, x, y):
    if arithmetic.kind == POLYNOMIALS:
        return polynomial_product(x, y, arithmetic.modulus)
    return TIMES[arithmetic.kind](x, y)


def sum_of_products(arithmetic, xs, ys):
    kind = arithmetic.kind
    if kind == POLYNOMIALS:
        return sum_of(arithmetic, [polynomial_product(x, y, arithmetic.modulus) for x, y in zip(xs, ys)])
    return sum_of(arithmetic, [TIMES[kind](x, y) for x, y in zip(xs, ys)])


def has_minus(arithmetic):
    return MINUS[arithmetic.kind] is not None


def minus(arithmetic, x, y):
    return MINUS[arithmetic.kind](x, y)


def none_of(arithmetic):
    """The meaning that plus leaves alone."""
    return NONE[arithmetic.kind]


def one_of(arithmetic):
    """The meaning that times leaves alone; modulo 1 its word is 0, the one number there is."""
    return ONE[arithmetic.kind]
