"""Lines put together from calls, and answers taken apart, for all the tests."""

from gridtalk.grids import answers

ARITHMETIC, MATRIX, CLEAR, PLUS, MINUS, TIMES = range(6)

TOP = 2 ** 64 - 1
HALF = 2 ** 63

# An m for each of the eight kinds.
KINDS = [(0, 0), (1, 97), (2, 0), (3, 0), (4, 0), (5, 0), (6, 0), (7, 27)]

# The edges of words, and ordinary words between them.
EDGES = [0, 1, 2, 3, 5, 96, 97, 98, 2 ** 32 - 1, 2 ** 32, 3037000499, 3037000500, 2 ** 62 - 1, 2 ** 62,
         HALF - 2, HALF - 1, HALF, HALF + 1, 0x123456789ABCDEF0, 0xDEADBEEFCAFEF00D, TOP - 1, TOP]


def matrix(rows, columns, entries):
    return [MATRIX, rows, columns, len(entries)] + list(entries)


def line(*calls):
    return [number for call in calls for number in call]


def apart(told):
    """The answers, each a list, with the counts before them looked at."""
    parts = []
    place = 0
    while place < len(told):
        count = told[place]
        part = told[place + 1:place + 1 + count]
        if count < 1 or len(part) != count:
            raise AssertionError(f"a count that isn't so at {place} in {told}")
        parts.append(part)
        place += 1 + count
    return parts


def ask(*calls):
    return apart(answers(line(*calls)))


def ask_each(kind, modulus, calls):
    """The answers to calls of any number, in that arithmetic: a line has at most 200 of them."""
    told = []
    for start in range(0, len(calls), 199):
        parts = ask([ARITHMETIC, kind, modulus], *calls[start:start + 199])
        if parts[0] != [0]:
            raise AssertionError(f"arithmetic {kind} with m {modulus} was refused")
        told.extend(parts[1:])
    return told


def last(kind, modulus, *call):
    return ask_each(kind, modulus, [list(call)])[0]
