"""The eight arithmetics: which words are numbers, what a word means, and how meanings are put together.

Operations take and give meanings, which are whole and may be of any size. Only word_of brings what
comes out back to a word, so nothing that's on the way has to fit.
"""

WORDS = 18446744073709551616
HALF_OF_WORDS = 9223372036854775808
LAST_WORD = 18446744073709551615
BITS_OF_A_WORD = 64

WRAPPING = 0
MODULAR = 1
SIGNED = 2
WAYS = 3
POLYNOMIALS = 7


class Arithmetic:
    """One arithmetic: its row in the table (kind) and its m (modulus)."""

    def __init__(self, kind, modulus):
        self.kind = kind
        self.modulus = modulus


def whole_sum(x, y):
    return x + y


def whole_difference(x, y):
    return x - y


def whole_product(x, y):
    return x * y


def lesser(x, y):
    return min(x, y)


def greater(x, y):
    return max(x, y)


def either(x, y):
    return x | y


def both(x, y):
    return x & y


def just_one(x, y):
    return x ^ y


def polynomial_product(x, y, modulus):
    """x times y, less multiples of X^64 + modulus."""
    # Taking y's coefficients from the highest on, the product so far is only ever moved by one X,
    # so at most one multiple has to be taken off at each step.
    product = 0
    for power in reversed(range(BITS_OF_A_WORD)):
        product = product << 1
        if product >= WORDS:
            product = product ^ WORDS ^ modulus
        if (y >> power) & 1 == 1:
            product = product ^ x
    return product


# A row for each kind, in the order of the kinds; the last kind's times asks for its m and isn't here.
PLUS = (whole_sum, whole_sum, whole_sum, lesser, greater, either, just_one, just_one)
TIMES = (whole_product, whole_product, whole_product, whole_sum, lesser, both, both)
MINUS = (whole_difference, whole_difference, whole_difference, None, None, None, just_one, just_one)
NONE = (0, 0, 0, 18446744073709551615, 0, 0, 0, 0)
ONE = (1, 1, 1, 0, 18446744073709551615, 18446744073709551615, 18446744073709551615, 1)


def is_arithmetic(kind, modulus):
    if kind == MODULAR:
        return 1 <= modulus < HALF_OF_WORDS
    if kind == POLYNOMIALS:
        return True
    return kind < POLYNOMIALS and modulus == 0


def has_number(arithmetic, word):
    return arithmetic.kind != MODULAR or word < arithmetic.modulus


def meaning_of(arithmetic, word):
    if arithmetic.kind == SIGNED and word >= HALF_OF_WORDS:
        return word - WORDS
    return word


def word_of(arithmetic, meaning):
    """The word of a meaning that came out, None where it doesn't fit."""
    if arithmetic.kind == WRAPPING:
        return meaning % WORDS
    if arithmetic.kind == MODULAR:
        return meaning % arithmetic.modulus
    if arithmetic.kind == SIGNED:
        return meaning % WORDS if -HALF_OF_WORDS <= meaning < HALF_OF_WORDS else None
    if arithmetic.kind == WAYS:
        return min(meaning, LAST_WORD)
    return meaning


def plus(arithmetic, x, y):
    return PLUS[arithmetic.kind](x, y)


def times(arithmetic, x, y):
    if arithmetic.kind == POLYNOMIALS:
        return polynomial_product(x, y, arithmetic.modulus)
    return TIMES[arithmetic.kind](x, y)


def has_minus(arithmetic):
    return MINUS[arithmetic.kind] is not None


def minus(arithmetic, x, y):
    return MINUS[arithmetic.kind](x, y)


def none_of(arithmetic):
    """The meaning that plus leaves alone."""
    return NONE[arithmetic.kind]


def one_of(arithmetic):
    """The meaning that times leaves alone; modulo 1 its word is 0, the one number there is."""
    return ONE[arithmetic.kind]
