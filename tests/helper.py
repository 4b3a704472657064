"""Lines put together from calls, answers taken apart, and a second program, for all the tests."""

from itertools import permutations

from gridtalk.grids import answers

ARITHMETIC, MATRIX, CLEAR, PLUS, MINUS, TIMES, RAISE, DOT, JUDGE, VALUE, ENTRY, ALIKE = range(12)

TOP = 2 ** 64 - 1
HALF = 2 ** 63

# An m for each of the eight kinds.
KINDS = [(0, 0), (1, 97), (2, 0), (3, 0), (4, 0), (5, 0), (6, 0), (7, 27)]

# The edges of words, and ordinary words between them.
EDGES = [0, 1, 2, 3, 5, 96, 97, 98, 2 ** 32 - 1, 2 ** 32, 3037000499, 3037000500, 2 ** 62 - 1, 2 ** 62,
         HALF - 2, HALF - 1, HALF, HALF + 1, 0x123456789ABCDEF0, 0xDEADBEEFCAFEF00D, TOP - 1, TOP]


def matrix(rows, columns, entries):
    return [MATRIX, rows, columns, len(entries)] + list(entries)


def judge(*x):
    return [JUDGE, len(x), *x]


def value(*x):
    return [VALUE, len(x), *x]


def entry(row, column, *x):
    return [ENTRY, row, column, len(x), *x]


def alike(x, y):
    return [ALIKE, len(x), *x, len(y), *y]


def dot(x, y):
    return [DOT, len(x), *x, len(y), *y]


def line(*calls):
    return [number for call in calls for number in call]


def apart(told):
    """The answers, each a list, with the counts before them looked at."""
    parts = []
    place = 0
    while place < len(told):
        count = told[place]
        part = told[place + 1:place + 1 + count]
        if count < 1 or len(part) != count:
            raise AssertionError(f"a count that isn't so at {place} in {told}")
        parts.append(part)
        place += 1 + count
    return parts


def ask(*calls):
    return apart(answers(line(*calls)))


def ask_each(kind, modulus, calls):
    """The answers to calls of any number, in that arithmetic: a line has at most 200 of them."""
    told = []
    for start in range(0, len(calls), 199):
        parts = ask([ARITHMETIC, kind, modulus], *calls[start:start + 199])
        if parts[0] != [0]:
            raise AssertionError(f"arithmetic {kind} with m {modulus} was refused")
        told.extend(parts[1:])
    return told


def last(kind, modulus, *call):
    return ask_each(kind, modulus, [list(call)])[0]


def told_with(kind, modulus, table, *calls):
    """The answers to the calls, in that arithmetic, with a table of matrices (rows, columns, entries)."""
    parts = ask([ARITHMETIC, kind, modulus], *[matrix(*there) for there in table], *calls)
    if parts[:1 + len(table)] != [[0]] + [[number] for number in range(len(table))]:
        raise AssertionError("the arithmetic or a matrix was refused")
    return parts[1 + len(table):]


def plain_with(kind, modulus, table):
    """The second program, with the same table."""
    rows = [[list(entries[row * columns:(row + 1) * columns]) for row in range(count)]
            for count, columns, entries in table]
    return Plain(kind, modulus, rows)


class Form(Exception):
    """A list that's no expression; its one argument is the place."""


class Plain:
    """An expression as the document words it, by recursion: all faults are gathered, then the least place is taken.

    A part is (number, place, its numbers, its operands); a size (rows, columns); a value a list of rows of
    meanings, which in arithmetic 7 are whole products until they're told by their words.
    """

    ARGUMENTS = {16: (2, 0), 17: (1, 0), 18: (1, 0), 34: (1, 1), 37: (4, 1), **dict.fromkeys((32, 33, 35, 36), (0, 1)),
                 **dict.fromkeys(range(48, 56), (0, 2))}

    def __init__(self, kind, modulus, table):
        self.kind, self.modulus, self.table = kind, modulus, table
        self.none = TOP if kind == 3 else 0
        self.one = {3: 0, 4: TOP, 5: TOP, 6: TOP}.get(kind, 1)
        self.faults = []

    def meaning(self, word):
        return word - 2 ** 64 if self.kind == 2 and word >= HALF else word

    def word(self, meaning):
        if self.kind == 2:
            return meaning % 2 ** 64 if -HALF <= meaning < HALF else None
        if self.kind == 7:
            while meaning > TOP:
                meaning ^= (2 ** 64 | self.modulus) << meaning.bit_length() - 65
        return {0: meaning % 2 ** 64, 1: meaning % (self.modulus or 1), 3: min(meaning, TOP)}.get(self.kind, meaning)

    def plus(self, x, y):
        return [x + y, x + y, x + y, min(x, y), max(x, y), x | y, x ^ y, x ^ y][self.kind]

    def times(self, x, y):
        if self.kind == 7:
            product = 0
            for power in range(y.bit_length()):
                product ^= x << power if y >> power & 1 else 0
            return product
        return [x * y, x * y, x * y, x + y, min(x, y), x & y, x & y][self.kind]

    def sum(self, meanings):
        total = self.none
        for meaning in meanings:
            total = self.plus(total, meaning)
        return total

    def part(self, numbers, place, around):
        if place >= len(numbers):
            raise Form(len(numbers))
        number = numbers[place]
        if number >= len(self.table) and number not in self.ARGUMENTS or number >= 32 and around == 32:
            raise Form(place)
        count, operands = self.ARGUMENTS.get(number, (0, 0))
        if place + 1 + count > len(numbers):
            raise Form(len(numbers))
        parts = []
        end = place + 1 + count
        for _ in range(operands):
            operand, end = self.part(numbers, end, around + 1)
            parts.append(operand)
        return (number, place, numbers[place + 1:place + 1 + count], parts), end

    def read(self, numbers):
        if len(numbers) > 512:
            raise Form(512)
        part, end = self.part(numbers, 0, 0)
        if end < len(numbers):
            raise Form(end)
        return part

    def size(self, part):
        number, place, given, parts = part
        sizes = [self.size(operand) for operand in parts]
        if None in sizes:
            return None
        size = self.asked(number, given, *sizes)
        if size is None:
            self.faults.append(place)
        return size

    def asked(self, number, given, x=(0, 0), y=(0, 0)):
        if number < 16:
            rows = self.table[number]
            return len(rows), len(rows[0])
        sides = range(1, 17)
        ring = self.kind not in (3, 4, 5)
        square = x[0] == x[1]
        cut = number == 37 and (given[1] > 0 and given[3] > 0
                                and given[0] + given[1] <= x[0] and given[2] + given[3] <= x[1])
        may, size = {
            16: (given and given[0] in sides and given[-1] in sides, tuple(given)),
            17: (given and given[0] in sides, tuple(given) * 2), 18: (True, (1, 1)), 32: (True, x[::-1]),
            33: (square, (1, 1)), 34: (square and given and given[0] < 65, x), 35: (square, x),
            36: (square and x[0] < 7 and ring, (1, 1)), 37: (cut, tuple(given[1::2])),
            48: (x == y, x), 49: (x == y and ring, x), 50: (x[1] == y[0], (x[0], y[1])), 51: (x == y, x),
            52: (x[0] * y[0] in sides and x[1] * y[1] in sides, (x[0] * y[0], x[1] * y[1])),
            53: (x[0] == y[0] and x[1] + y[1] in sides, (x[0], x[1] + y[1])),
            54: (x[1] == y[1] and x[0] + y[0] in sides, (x[0] + y[0], x[1])), 55: (x == (1, 1), y)}[number]
        return size if may else None

    def words_at_fault(self, part):
        number, place, given, parts = part
        words = given if number == 18 else [word for row in self.table[number] for word in row] if number < 16 else []
        here = [place] if self.kind == 1 and any(word >= self.modulus for word in words) else []
        return here + [fault for operand in parts for fault in self.words_at_fault(operand)]

    def value(self, part):
        number, place, given, parts = part
        operands = [self.value(operand) for operand in parts]
        if None in operands:
            return None
        rows = self.fit(self.whole(number, given, *operands))
        if rows is None:
            self.faults.append(place)
        return rows

    def fit(self, rows):
        words = None if rows is None else [[self.word(entry) for entry in row] for row in rows]
        if words is None or any(word is None for row in words for word in row):
            return None
        return [[self.meaning(word) for word in row] for row in words]

    def ones(self, size):
        return [[self.one if row == column else self.none for column in range(size)] for row in range(size)]

    def product(self, x, y):
        return [[self.sum(self.times(x[i][k], y[k][j]) for k in range(len(y))) for j in range(len(y[0]))]
                for i in range(len(x))]

    def both(self, operation, x, y):
        return [[operation(left, right) for left, right in zip(*rows)] for rows in zip(x, y)]

    def minus(self, x, y):
        return x ^ y if self.kind > 5 else x - y

    def power(self, x, exponent):
        result = self.ones(len(x))
        while exponent and result is not None:
            result = self.fit(self.product(result, x))
            exponent -= 1
        return result

    def closure(self, x):
        result = self.ones(len(x))
        for _ in range(len(x) - 1):
            if result is not None:
                result = self.fit(self.both(self.plus, self.ones(len(x)), self.product(x, result)))
        return result

    def determinant(self, x):
        total = self.none
        for way in permutations(range(len(x))):
            product = self.one
            for row, column in enumerate(way):
                product = self.times(product, x[row][column])
            odd = sum(way[i] > way[j] for i in range(len(way)) for j in range(i, len(way))) % 2
            total = self.minus(total, product) if odd else self.plus(total, product)
        return total

    def whole(self, number, given, x=None, y=None):
        if number < 16:
            return [[self.meaning(word) for word in row] for row in self.table[number]]
        return {
            16: lambda: [[self.none] * given[1] for _ in range(given[0])], 17: lambda: self.ones(given[0]),
            18: lambda: [[self.meaning(given[0])]], 32: lambda: [list(column) for column in zip(*x)],
            33: lambda: [[self.sum(x[i][i] for i in range(len(x)))]], 34: lambda: self.power(x, given[0]),
            35: lambda: self.closure(x), 36: lambda: [[self.determinant(x)]],
            37: lambda: [row[given[2]:given[2] + given[3]] for row in x[given[0]:given[0] + given[1]]],
            48: lambda: self.both(self.plus, x, y), 49: lambda: self.both(self.minus, x, y),
            50: lambda: self.product(x, y), 51: lambda: self.both(self.times, x, y),
            52: lambda: [[self.times(x[i // len(y)][j // len(y[0])], y[i % len(y)][j % len(y[0])])
                          for j in range(len(x[0]) * len(y[0]))] for i in range(len(x) * len(y))],
            53: lambda: [left + right for left, right in zip(x, y)], 54: lambda: x + y,
            55: lambda: [[self.times(x[0][0], entry) for entry in row] for row in y]}[number]()

    def judged(self, numbers):
        """(refusal, part, size)"""
        try:
            part = self.read(numbers)
        except Form as form:
            return [-3, *form.args], None, None
        self.faults = []
        size = self.size(part)
        return ([-4, min(self.faults)] if self.faults else []), part, size

    def looked_at(self, part):
        places = self.words_at_fault(part)
        return [-7, min(places)] if places else []

    def worked_out(self, part):
        """(refusal, rows of words)"""
        self.faults = []
        rows = self.value(part)
        if self.faults:
            return [-8, min(self.faults)], None
        return [], [[self.word(entry) for entry in row] for row in rows]

    def due_to_value(self, numbers):
        refusal, part, size = self.judged(numbers)
        refusal = refusal or self.looked_at(part)
        if refusal:
            return refusal
        refusal, rows = self.worked_out(part)
        return refusal or [0, *size, *[word for row in rows for word in row]]

    def due_to_judge(self, numbers):
        refusal, part, size = self.judged(numbers)
        return refusal or [0, *size]

    def due_to_entry(self, numbers, row, column):
        refusal, part, size = self.judged(numbers)
        if not refusal and (row >= size[0] or column >= size[1]):
            return [-6]
        told = refusal or self.due_to_value(numbers)
        return told if told[0] < 0 else [0, told[3 + row * size[1] + column]]

    def due_to_alike(self, x, y):
        def less(refusal):
            return [refusal[0] - 16, refusal[1]] if refusal else []
        refusal, part, size = self.judged(x)
        if refusal:
            return refusal
        refusal, other_part, other_size = self.judged(y)
        if refusal:
            return less(refusal)
        if size != other_size:
            return [0, 1, *size]
        refusal = self.looked_at(part) or less(self.looked_at(other_part))
        if refusal:
            return refusal
        refusal, rows = self.worked_out(part)
        other_refusal, other_rows = self.worked_out(other_part)
        refusal = refusal or less(other_refusal)
        if refusal:
            return refusal
        differ = [(i, j) for i, row in enumerate(rows) for j, word in enumerate(row) if word != other_rows[i][j]]
        return [0, 0, *differ[0]] if differ else [1]
