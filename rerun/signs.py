"""The numbers that the document gives: limits, how a cell stands, and refusals."""

MOST_CELLS = 256
MOST_NAME = 32
MOST_TEXT = 65536
MOST_LEANS = 8
MOST_VALUE = 16384
MOST_NUMBER = 4294967295

# The runs are told modulo this, which is two to the power of 64.
RUNS_TURN_OVER = 18446744073709551616

OPEN = 0
GOOD = 1
BAD = 2
STUCK = 3

MALFORMED = -1
NO_BOOK = -2
NO_CELL_THERE = -3
NO_SUCH_CELL = -4
NOT_GOOD = -4
ALL_TAKEN = -6
WRONG_TIME = -8
