"""The numbers by which a call is refused, and the one by which it is not."""

DONE = 0
NO_SUCH_ARITHMETIC = -1
NO_MATRIX = -2
NO_EXPRESSION = -3
NOT_AS_ASKED = -4
TABLE_IS_FULL = -5
OUT_OF_BOUNDS = -6
NO_NUMBER = -7
DOES_NOT_FIT = -8

# What is taken off a refusal of alike's second expression.
SECOND = 16
