"""The bounds that the document names, and the numbers of its refusals."""

MOST_WHO = 65535
MOST_DEPTH = 64
MOST_NODES = 4096
MOST_PIECES = 65536
MOST_MARKS = 64
# how many pieces or nodes may be asked for at once
MOST_ASKED = 1024
# of a text, in bytes
MOST_TEXT = 1048576
# what share counts as all
WHOLE = 10000
# 2^32 - 1
MOST_TICK = 4294967295
MOST_SIZE = 4294967295
MOST_RATE = 4294967295
# 2^40 - 1
MOST_PLACE = 1099511627775
# 2^63: times and sums stay below it
SUM_END = 9223372036854775808

NOT_FREE = -3
NOT_THERE = -4
NOT_SO_LONG = -5
FULL = -6
TOO_GREAT = -7
OUT_OF_RANGE = -8


def within(number, most):
    """Whether the number is in the range from 0 to most."""
    return 0 <= number <= most
