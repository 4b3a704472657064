"""What each operation is, where its operands are as it asks.

Each function here takes the arithmetic, the operation's numbers and its operands' values, and gives the
entries of its value, row by row, as the whole numbers that they are; whether these fit is asked behind it.
Only where something must fit on the way is it asked here, and None given where it doesn't.
"""

from gridtalk.arithmetics import POLYNOMIALS, always_fits, meaning_of, meanings_of, minus, none_of, one_of
from gridtalk.arithmetics import plus, sum_of, sum_of_products, times, words_of
from gridtalk.polynomials import product_of_rows


class Grid:
    """A matrix, its entries row by row: words in the table, meanings in an expression."""

    def __init__(self, height, width, entries):
        self.height = height
        self.width = width
        self.entries = entries


def settled(arithmetic, grid):
    """The grid with the meanings of its entries' words, None where one of them doesn't fit."""
    words = words_of(arithmetic, grid.entries)
    if words is None:
        return None
    return Grid(grid.height, grid.width, meanings_of(arithmetic, words))


def row_of(grid, row):
    return grid.entries[row * grid.width:(row + 1) * grid.width]


def rows_of(grid):
    return [row_of(grid, row) for row in range(grid.height)]


def columns_of(grid):
    return [grid.entries[column::grid.width] for column in range(grid.width)]


def diagonal_of(grid):
    return grid.entries[::grid.width + 1]


def sums(arithmetic, xs, ys):
    return [plus(arithmetic, x, y) for x, y in zip(xs, ys)]


def multiples(arithmetic, factor, meanings):
    return [times(arithmetic, factor, meaning) for meaning in meanings]


def nones(arithmetic, given, grids):
    return [none_of(arithmetic)] * (given[0] * given[1])


def ones_by_size(arithmetic, size):
    row = [one_of(arithmetic)] + [none_of(arithmetic)] * size
    # From one entry of the diagonal to the next there's one more than a row has.
    return (row * size)[:size * size]


def ones(arithmetic, given, grids):
    return ones_by_size(arithmetic, given[0])


def ones_like(arithmetic, grid):
    return settled(arithmetic, Grid(grid.height, grid.width, ones_by_size(arithmetic, grid.height)))


def single(arithmetic, given, grids):
    return [meaning_of(arithmetic, given[0])]


def turned(arithmetic, given, grids):
    entries = []
    for column in columns_of(grids[0]):
        entries.extend(column)
    return entries


def trace(arithmetic, given, grids):
    return [sum_of(arithmetic, diagonal_of(grids[0]))]


def entries_of_product(arithmetic, x, y):
    if arithmetic.kind == POLYNOMIALS:
        return product_of_rows(rows_of(x), rows_of(y), arithmetic.modulus)
    columns = columns_of(y)
    entries = []
    for row in rows_of(x):
        entries.extend([sum_of_products(arithmetic, row, column) for column in columns])
    return entries


def settled_product(arithmetic, x, y):
    return settled(arithmetic, Grid(x.height, y.width, entries_of_product(arithmetic, x, y)))


def power_by_squares(arithmetic, x, exponent):
    result = ones_like(arithmetic, x)
    while exponent > 0:
        if exponent % 2 == 1:
            result = settled_product(arithmetic, result, x)
        x = settled_product(arithmetic, x, x)
        exponent = exponent // 2
    return result


def power_step_by_step(arithmetic, x, exponent):
    result = ones_like(arithmetic, x)
    for count in range(exponent):
        result = settled_product(arithmetic, result, x)
        if result is None:
            return None
    return result


def power(arithmetic, given, grids):
    # Squares pass over most powers, which is the same only where none of them can fail to fit.
    if always_fits(arithmetic):
        result = power_by_squares(arithmetic, grids[0], given[0])
    else:
        result = power_step_by_step(arithmetic, grids[0], given[0])
    return None if result is None else result.entries


def closure(arithmetic, given, grids):
    x = grids[0]
    identity = ones_like(arithmetic, x)
    result = identity
    for count in range(x.height - 1):
        entries = sums(arithmetic, identity.entries, entries_of_product(arithmetic, x, result))
        result = settled(arithmetic, Grid(x.height, x.width, entries))
        if result is None:
            return None
    return result.entries


def members_above(members, column):
    return [other for other in range(column + 1, members.bit_length()) if (members >> other) & 1 == 1]


def minor(arithmetic, row, members, minors):
    """The determinant of the rows up to this one, of the columns that are members, from those of one row less."""
    even = []
    odd = []
    for column, entry in enumerate(row):
        if (members >> column) & 1 == 1:
            part = times(arithmetic, minors[members ^ (1 << column)], entry)
            if len(members_above(members, column)) % 2 == 0:
                even.append(part)
            else:
                odd.append(part)
    return minus(arithmetic, sum_of(arithmetic, even), sum_of(arithmetic, odd))


def determinant(arithmetic, given, grids):
    # Ways that take the same columns from the first rows share their products: by the set of these columns,
    # as bits, the sums are kept, and nothing has to be divided.
    rows = rows_of(grids[0])
    minors = [one_of(arithmetic)]
    while len(minors) < (1 << len(rows)):
        members = len(minors)
        row = rows[len(members_above(members, -1)) - 1]
        minors.append(minor(arithmetic, row, members, minors))
    return [minors[-1]]


def cut(arithmetic, given, grids):
    entries = []
    for row in rows_of(grids[0])[given[0]:given[0] + given[1]]:
        entries.extend(row[given[2]:given[2] + given[3]])
    return entries


def plus_entry_by_entry(arithmetic, given, grids):
    return sums(arithmetic, grids[0].entries, grids[1].entries)


def minus_entry_by_entry(arithmetic, given, grids):
    return [minus(arithmetic, x, y) for x, y in zip(grids[0].entries, grids[1].entries)]


def product(arithmetic, given, grids):
    return entries_of_product(arithmetic, grids[0], grids[1])


def times_entry_by_entry(arithmetic, given, grids):
    return [times(arithmetic, x, y) for x, y in zip(grids[0].entries, grids[1].entries)]


def blocks(arithmetic, given, grids):
    entries = []
    for row in rows_of(grids[0]):
        for other_row in rows_of(grids[1]):
            for factor in row:
                entries.extend(multiples(arithmetic, factor, other_row))
    return entries


def beside(arithmetic, given, grids):
    entries = []
    for row, other_row in zip(rows_of(grids[0]), rows_of(grids[1])):
        entries.extend(row + other_row)
    return entries


def below(arithmetic, given, grids):
    return grids[0].entries + grids[1].entries


def multiple(arithmetic, given, grids):
    return multiples(arithmetic, grids[0].entries[0], grids[1].entries)


# By the operation's number.
OPERATIONS = {
    16: nones,
    17: ones,
    18: single,
    32: turned,
    33: trace,
    34: power,
    35: closure,
    36: determinant,
    37: cut,
    48: plus_entry_by_entry,
    49: minus_entry_by_entry,
    50: product,
    51: times_entry_by_entry,
    52: blocks,
    53: beside,
    54: below,
    55: multiple,
}


def value_of_operation(number, arithmetic, given, grids, size):
    """The value, a grid of that size; None where it doesn't fit."""
    entries = OPERATIONS[number](arithmetic, given, grids)
    if entries is None:
        return None
    return settled(arithmetic, Grid(size[0], size[1], entries))
