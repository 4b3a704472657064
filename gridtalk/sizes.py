"""What each operation asks of its numbers and its operands, and which size its value has then.

A size is (rows, columns). Each function here takes the arithmetic, the operation's numbers and its operands'
sizes, and gives the value's size, or None where they aren't as it asks.
"""

from gridtalk.arithmetics import has_minus

LARGEST_SIDE = 16
LARGEST_POWER = 64
LARGEST_DETERMINANT = 6


def is_side(length):
    return 1 <= length <= LARGEST_SIDE


def is_square(size):
    return size[0] == size[1]


def size_if(is_as_asked, size):
    return size if is_as_asked else None


def size_of_nones(arithmetic, given, sizes):
    return size_if(is_side(given[0]) and is_side(given[1]), (given[0], given[1]))


def size_of_ones(arithmetic, given, sizes):
    return size_if(is_side(given[0]), (given[0], given[0]))


def size_of_single(arithmetic, given, sizes):
    return (1, 1)


def size_of_turned(arithmetic, given, sizes):
    return (sizes[0][1], sizes[0][0])


def size_of_trace(arithmetic, given, sizes):
    return size_if(is_square(sizes[0]), (1, 1))


def size_of_power(arithmetic, given, sizes):
    return size_if(is_square(sizes[0]) and given[0] <= LARGEST_POWER, sizes[0])


def size_of_closure(arithmetic, given, sizes):
    return size_if(is_square(sizes[0]), sizes[0])


def size_of_determinant(arithmetic, given, sizes):
    is_as_asked = is_square(sizes[0]) and sizes[0][0] <= LARGEST_DETERMINANT and has_minus(arithmetic)
    return size_if(is_as_asked, (1, 1))


def is_stretch(first, count, length):
    return count >= 1 and first + count <= length


def size_of_cut(arithmetic, given, sizes):
    has_rows = is_stretch(given[0], given[1], sizes[0][0])
    has_columns = is_stretch(given[2], given[3], sizes[0][1])
    return size_if(has_rows and has_columns, (given[1], given[3]))


def size_entry_by_entry(arithmetic, given, sizes):
    return size_if(sizes[0] == sizes[1], sizes[0])


def size_of_difference(arithmetic, given, sizes):
    return size_if(sizes[0] == sizes[1] and has_minus(arithmetic), sizes[0])


def size_of_product(arithmetic, given, sizes):
    return size_if(sizes[0][1] == sizes[1][0], (sizes[0][0], sizes[1][1]))


def size_of_blocks(arithmetic, given, sizes):
    size = (sizes[0][0] * sizes[1][0], sizes[0][1] * sizes[1][1])
    return size_if(is_side(size[0]) and is_side(size[1]), size)


def size_of_beside(arithmetic, given, sizes):
    width = sizes[0][1] + sizes[1][1]
    return size_if(sizes[0][0] == sizes[1][0] and is_side(width), (sizes[0][0], width))


def size_of_below(arithmetic, given, sizes):
    height = sizes[0][0] + sizes[1][0]
    return size_if(sizes[0][1] == sizes[1][1] and is_side(height), (height, sizes[0][1]))


def size_of_multiple(arithmetic, given, sizes):
    return size_if(sizes[0] == (1, 1), sizes[1])


# By the operation's number.
SIZES = {
    16: size_of_nones,
    17: size_of_ones,
    18: size_of_single,
    32: size_of_turned,
    33: size_of_trace,
    34: size_of_power,
    35: size_of_closure,
    36: size_of_determinant,
    37: size_of_cut,
    48: size_entry_by_entry,
    49: size_of_difference,
    50: size_of_product,
    51: size_entry_by_entry,
    52: size_of_blocks,
    53: size_of_beside,
    54: size_of_below,
    55: size_of_multiple,
}


def size_of_operation(number, arithmetic, given, sizes):
    return SIZES[number](arithmetic, given, sizes)
