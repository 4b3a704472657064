"""The calls of a line, made one behind another, and what is answered to them."""

from gridtalk.arithmetics import Arithmetic, are_numbers, has_minus, has_number, is_arithmetic
from gridtalk.arithmetics import meaning_of, meanings_of, minus, one_of, plus, sum_of_products, times, word_of
from gridtalk.expressions import Expression
from gridtalk.operations import Grid
from gridtalk.refusals import DOES_NOT_FIT, DONE, NO_MATRIX, NO_NUMBER, NO_SUCH_ARITHMETIC
from gridtalk.refusals import NOT_AS_ASKED, OUT_OF_BOUNDS, SECOND, TABLE_IS_FULL
from gridtalk.sizes import is_side

MOST_MATRICES = 16
MOST_TIMES_ITSELF = 1000

# What alike tells first: of one value; of two; and, of two, whether their entries or their sizes differ.
ALIKE = 1
NOT_ALIKE = 0
ENTRIES_DIFFER = 0
SIZES_DIFFER = 1


class Board:
    """What the calls of one line work on: the arithmetic, and the table of matrices."""

    def __init__(self):
        self.arithmetic = Arithmetic(0, 0)
        self.table = []


class Reader:
    """Goes through a line's numbers from the left and leaves them as they are."""

    def __init__(self, calls):
        self.calls = calls
        self.place = 0

    def is_through(self):
        return self.place >= len(self.calls)

    def take_number(self):
        self.place += 1
        return self.calls[self.place - 1]

    def take_row(self, length):
        self.place += length
        return self.calls[self.place - length:self.place]

    def take_counted_row(self):
        return self.take_row(self.take_number())


def call_arithmetic(board, numbers, rows):
    if not is_arithmetic(numbers[0], numbers[1]):
        return [NO_SUCH_ARITHMETIC]
    board.arithmetic = Arithmetic(numbers[0], numbers[1])
    return [DONE]


def is_matrix(height, width, entries):
    return is_side(height) and is_side(width) and len(entries) == height * width


def call_matrix(board, numbers, rows):
    if not is_matrix(numbers[0], numbers[1], rows[0]):
        return [NO_MATRIX]
    if len(board.table) == MOST_MATRICES:
        return [TABLE_IS_FULL]
    board.table.append(Grid(numbers[0], numbers[1], rows[0]))
    return [len(board.table) - 1]


def call_clear(board, numbers, rows):
    board.table = []
    return [DONE]


def answer_meaning(arithmetic, meaning):
    word = word_of(arithmetic, meaning)
    if word is None:
        return [DOES_NOT_FIT]
    return [DONE, word]


def answer_operation(arithmetic, operation, words):
    if not are_numbers(arithmetic, words):
        return [NO_NUMBER]
    x = meaning_of(arithmetic, words[0])
    y = meaning_of(arithmetic, words[1])
    return answer_meaning(arithmetic, operation(arithmetic, x, y))


def call_plus(board, numbers, rows):
    return answer_operation(board.arithmetic, plus, numbers)


def call_minus(board, numbers, rows):
    if not has_minus(board.arithmetic):
        return [NOT_AS_ASKED]
    return answer_operation(board.arithmetic, minus, numbers)


def call_times(board, numbers, rows):
    return answer_operation(board.arithmetic, times, numbers)


def call_raise(board, numbers, rows):
    if numbers[1] > MOST_TIMES_ITSELF:
        return [OUT_OF_BOUNDS]
    if not has_number(board.arithmetic, numbers[0]):
        return [NO_NUMBER]
    x = meaning_of(board.arithmetic, numbers[0])
    result = one_of(board.arithmetic)
    for count in range(numbers[1]):
        result = times(board.arithmetic, result, x)
    return answer_meaning(board.arithmetic, result)


def call_dot(board, numbers, rows):
    if len(rows[0]) != len(rows[1]):
        return [OUT_OF_BOUNDS]
    if not are_numbers(board.arithmetic, rows[0] + rows[1]):
        return [NO_NUMBER]
    xs = meanings_of(board.arithmetic, rows[0])
    ys = meanings_of(board.arithmetic, rows[1])
    return answer_meaning(board.arithmetic, sum_of_products(board.arithmetic, xs, ys))


def expression_of(board, numbers):
    return Expression(board.arithmetic, board.table, numbers)


def call_judge(board, numbers, rows):
    x = expression_of(board, rows[0])
    return x.judge() or [DONE] + list(x.size())


def call_value(board, numbers, rows):
    x = expression_of(board, rows[0])
    refusal = x.judge() or x.look_at_words() or x.work_out()
    return refusal or [DONE] + list(x.size()) + x.words()


def refused_entry(size, row, column):
    return [] if row < size[0] and column < size[1] else [OUT_OF_BOUNDS]


def call_entry(board, numbers, rows):
    x = expression_of(board, rows[0])
    refusal = x.judge() or refused_entry(x.size(), numbers[0], numbers[1]) or x.look_at_words() or x.work_out()
    return refusal or [DONE, x.words()[numbers[0] * x.size()[1] + numbers[1]]]


def refused_second(refusal):
    """The refusal of alike's second expression, told apart from the first one's."""
    return [refusal[0] - SECOND, refusal[1]] if refusal else []


def answer_alike(words, other_words, width):
    for place in range(len(words)):
        if words[place] != other_words[place]:
            return [NOT_ALIKE, ENTRIES_DIFFER, place // width, place % width]
    return [ALIKE]


def call_alike(board, numbers, rows):
    x = expression_of(board, rows[0])
    y = expression_of(board, rows[1])
    refusal = x.judge() or refused_second(y.judge())
    if refusal:
        return refusal
    if x.size() != y.size():
        return [NOT_ALIKE, SIZES_DIFFER] + list(x.size())
    refusal = x.look_at_words() or refused_second(y.look_at_words())
    refusal = refusal or x.work_out() or refused_second(y.work_out())
    return refusal or answer_alike(x.words(), y.words(), x.size()[1])


# By the call's number: how many whole numbers it has, how many lists behind them, and what answers it.
CALLS = (
    (2, 0, call_arithmetic),
    (2, 1, call_matrix),
    (0, 0, call_clear),
    (2, 0, call_plus),
    (2, 0, call_minus),
    (2, 0, call_times),
    (2, 0, call_raise),
    (0, 2, call_dot),
    (0, 1, call_judge),
    (0, 1, call_value),
    (2, 1, call_entry),
    (0, 2, call_alike),
)


def next_answer(board, reader):
    form = CALLS[reader.take_number()]
    # All of a call is read before it's judged: a refused call must not leave its rest to the next one.
    numbers = reader.take_row(form[0])
    rows = []
    while len(rows) < form[1]:
        rows.append(reader.take_counted_row())
    return form[2](board, numbers, rows)


def answers(calls):
    """What is answered to each call of a line: how many numbers, then these."""
    board = Board()
    reader = Reader(calls)
    answered = []
    while not reader.is_through():
        answer = next_answer(board, reader)
        answered.append(len(answer))
        answered.extend(answer)
    return answered
