"""The calls of a line, made one behind another, and what is answered to them."""

from gridtalk.arithmetics import Arithmetic, has_minus, has_number, is_arithmetic
from gridtalk.arithmetics import meaning_of, minus, plus, times, word_of

LARGEST_SIDE = 16
MOST_MATRICES = 16

DONE = 0
NO_SUCH_ARITHMETIC = -1
NO_MATRIX = -2
NOT_AS_ASKED = -4
TABLE_IS_FULL = -5
NO_NUMBER = -7
DOES_NOT_FIT = -8


class Board:
    """What the calls of one line work on: the arithmetic, and the table of (rows, columns, entries)."""

    def __init__(self):
        self.arithmetic = Arithmetic(0, 0)
        self.table = []


class Reader:
    """Goes through a line's numbers from the left and leaves them as they are."""

    def __init__(self, calls):
        self.calls = calls
        self.place = 0

    def is_through(self):
        return self.place >= len(self.calls)

    def take_number(self):
        self.place += 1
        return self.calls[self.place - 1]

    def take_row(self, length):
        self.place += length
        return self.calls[self.place - length:self.place]

    def take_counted_row(self):
        return self.take_row(self.take_number())


def call_arithmetic(board, numbers, rows):
    if not is_arithmetic(numbers[0], numbers[1]):
        return [NO_SUCH_ARITHMETIC]
    board.arithmetic = Arithmetic(numbers[0], numbers[1])
    return [DONE]


def is_side(length):
    return 1 <= length <= LARGEST_SIDE


def is_matrix(height, width, entries):
    return is_side(height) and is_side(width) and len(entries) == height * width


def call_matrix(board, numbers, rows):
    if not is_matrix(numbers[0], numbers[1], rows[0]):
        return [NO_MATRIX]
    if len(board.table) == MOST_MATRICES:
        return [TABLE_IS_FULL]
    board.table.append((numbers[0], numbers[1], rows[0]))
    return [len(board.table) - 1]


def call_clear(board, numbers, rows):
    board.table = []
    return [DONE]


def answer_meaning(arithmetic, meaning):
    word = word_of(arithmetic, meaning)
    if word is None:
        return [DOES_NOT_FIT]
    return [DONE, word]


def answer_operation(arithmetic, operation, words):
    for word in words:
        if not has_number(arithmetic, word):
            return [NO_NUMBER]
    x = meaning_of(arithmetic, words[0])
    y = meaning_of(arithmetic, words[1])
    return answer_meaning(arithmetic, operation(arithmetic, x, y))


def call_plus(board, numbers, rows):
    return answer_operation(board.arithmetic, plus, numbers)


def call_minus(board, numbers, rows):
    if not has_minus(board.arithmetic):
        return [NOT_AS_ASKED]
    return answer_operation(board.arithmetic, minus, numbers)


def call_times(board, numbers, rows):
    return answer_operation(board.arithmetic, times, numbers)


# By the call's number: how many whole numbers it has, how many lists behind them, and what answers it.
CALLS = (
    (2, 0, call_arithmetic),
    (2, 1, call_matrix),
    (0, 0, call_clear),
    (2, 0, call_plus),
    (2, 0, call_minus),
    (2, 0, call_times),
)


def next_answer(board, reader):
    form = CALLS[reader.take_number()]
    # All of a call is read before it's judged: a refused call must not leave its rest to the next one.
    numbers = reader.take_row(form[0])
    rows = []
    while len(rows) < form[1]:
        rows.append(reader.take_counted_row())
    return form[2](board, numbers, rows)


def answers(calls):
    """What is answered to each call of a line: how many numbers, then these."""
    board = Board()
    reader = Reader(calls)
    answered = []
    while not reader.is_through():
        answer = next_answer(board, reader)
        answered.append(len(answer))
        answered.extend(answer)
    return answered
