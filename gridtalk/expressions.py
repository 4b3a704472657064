"""Expressions told in numbers: read, judged, and worked out.

An expression is read into steps, each behind its operands and these from the left to the right. One whose operands
are at fault isn't at fault itself, so two at fault never stand in one another; hence the first of them among the
steps is also the one with the least place.
"""

from gridtalk.arithmetics import are_numbers, meanings_of, words_of
from gridtalk.operations import Grid, value_of_operation
from gridtalk.refusals import DOES_NOT_FIT, NO_EXPRESSION, NO_NUMBER, NOT_AS_ASKED
from gridtalk.sizes import size_of_operation

MOST_NUMBERS = 512
MOST_IN_ONE_ANOTHER = 32
FIRST_WITH_OPERANDS = 32
SINGLE_WORD = 18

# By the operation's number: how many numbers it has, and how many operands behind them.
FORMS = {
    16: (2, 0),
    17: (1, 0),
    18: (1, 0),
    32: (0, 1),
    33: (0, 1),
    34: (1, 1),
    35: (0, 1),
    36: (0, 1),
    37: (4, 1),
    48: (0, 2),
    49: (0, 2),
    50: (0, 2),
    51: (0, 2),
    52: (0, 2),
    53: (0, 2),
    54: (0, 2),
    55: (0, 2),
}


class Step:
    """An operation or a matrix, where it stands; its operands are told by their places among the steps."""

    def __init__(self, number, place, given):
        self.number = number
        self.place = place
        self.given = given
        self.operands = []


def is_matrix(number):
    return number not in FORMS


def how_many_given(number):
    return 0 if is_matrix(number) else FORMS[number][0]


def how_many_operands(number):
    return 0 if is_matrix(number) else FORMS[number][1]


def begins_operand(number, matrices, around):
    """Whether it does, with so many matrices in the table and so many operations around it."""
    if number < matrices:
        return True
    return number in FORMS and (number < FIRST_WITH_OPERANDS or around < MOST_IN_ONE_ANOTHER)


def move_what_is_whole(waiting, steps):
    """Those that wait for no more operand become steps, the innermost first."""
    while waiting and len(waiting[-1].operands) == how_many_operands(waiting[-1].number):
        steps.append(waiting.pop())
        if waiting:
            waiting[-1].operands.append(len(steps) - 1)


def read_steps(numbers, matrices, steps):
    """Puts the steps of an expression into the list; gives the place of the fault of form, None where there's none."""
    if len(numbers) > MOST_NUMBERS:
        return MOST_NUMBERS
    place = 0
    waiting = []
    while waiting or not steps:
        if place == len(numbers):
            return place
        if not begins_operand(numbers[place], matrices, len(waiting)):
            return place
        behind = place + 1 + how_many_given(numbers[place])
        if behind > len(numbers):
            return len(numbers)
        waiting.append(Step(numbers[place], place, numbers[place + 1:behind]))
        move_what_is_whole(waiting, steps)
        place = behind
    return place if place < len(numbers) else None


class Expression:
    """A list of numbers that is judged, looked through for words and worked out, in this order, as far as it's asked.

    Each of these gives the refusal and its place, or an empty list where there's none.
    """

    def __init__(self, arithmetic, table, numbers):
        self.arithmetic = arithmetic
        self.table = table
        self.numbers = numbers
        self.steps = []
        self.sizes = []
        self.grids = []

    def judge(self):
        fault = read_steps(self.numbers, len(self.table), self.steps)
        if fault is not None:
            return [NO_EXPRESSION, fault]
        for step in self.steps:
            size = self.size_of_step(step)
            if size is None:
                return [NOT_AS_ASKED, step.place]
            self.sizes.append(size)
        return []

    def size_of_step(self, step):
        if is_matrix(step.number):
            matrix = self.table[step.number]
            return (matrix.height, matrix.width)
        sizes = [self.sizes[operand] for operand in step.operands]
        return size_of_operation(step.number, self.arithmetic, step.given, sizes)

    def look_at_words(self):
        for step in self.steps:
            if not are_numbers(self.arithmetic, self.words_of_step(step)):
                return [NO_NUMBER, step.place]
        return []

    def words_of_step(self, step):
        if is_matrix(step.number):
            return self.table[step.number].entries
        return step.given if step.number == SINGLE_WORD else []

    def work_out(self):
        for step, size in zip(self.steps, self.sizes):
            grid = self.value_of_step(step, size)
            if grid is None:
                return [DOES_NOT_FIT, step.place]
            self.grids.append(grid)
        return []

    def value_of_step(self, step, size):
        if is_matrix(step.number):
            return Grid(size[0], size[1], meanings_of(self.arithmetic, self.table[step.number].entries))
        grids = [self.grids[operand] for operand in step.operands]
        return value_of_operation(step.number, self.arithmetic, step.given, grids, size)

    def size(self):
        return self.sizes[-1]

    def words(self):
        return words_of(self.arithmetic, self.grids[-1].entries)
