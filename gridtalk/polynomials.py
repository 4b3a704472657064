"""Products of polynomials that are told by their bits, less multiples of X^64 + modulus.

Several polynomials can stand beside one another in one whole number, each in a lane of its own, so that
one step works on all of them.
"""

from gridtalk.words import BITS_OF_A_WORD, LAST_WORD, WORDS

# A bit more than a word has: a polynomial that's been moved by one X still lies in its lane.
BITS_OF_A_LANE = 65


def polynomial_product(x, y, modulus):
    # Taking y's coefficients from the highest on, the product so far is only ever moved by one X,
    # so at most one multiple has to be taken off at each step.
    product = 0
    for power in range(BITS_OF_A_WORD - 1, -1, -1):
        product = product << 1
        if product >= WORDS:
            product = product ^ WORDS ^ modulus
        if (y >> power) & 1 == 1:
            product = product ^ x
    return product


def beside_one_another(words):
    lanes = 0
    for word in reversed(words):
        lanes = (lanes << BITS_OF_A_LANE) | word
    return lanes


def taken_apart(lanes, count):
    return [(lanes >> (BITS_OF_A_LANE * lane)) & LAST_WORD for lane in range(count)]


def sum_of_polynomial_products(row, lanes_of_rows, first_bits, modulus):
    """Each entry of a row times all that stands in its lanes, in the lanes of the sum of these.

    first_bits has a 1 where each of the lanes begins.
    """
    total = 0
    for power in range(BITS_OF_A_WORD - 1, -1, -1):
        total = total << 1
        # In each lane that has an X^64 now, one multiple is taken off.
        total = total ^ (((total >> BITS_OF_A_WORD) & first_bits) * (WORDS ^ modulus))
        for entry, lanes in zip(row, lanes_of_rows):
            if (entry >> power) & 1 == 1:
                total = total ^ lanes
    return total


def product_of_rows(rows, other_rows, modulus):
    """The rows of a matrix product of polynomials, one behind another."""
    width = len(other_rows[0])
    lanes_of_rows = [beside_one_another(row) for row in other_rows]
    first_bits = beside_one_another([1] * width)
    entries = []
    for row in rows:
        total = sum_of_polynomial_products(row, lanes_of_rows, first_bits, modulus)
        entries.extend(taken_apart(total, width))
    return entries
