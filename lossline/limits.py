"""The bounds of what can be handed in, and the numbers of the refusals."""

CANNOT_BE = -1
PASSED_OR_THERE = -5
TOO_FAR = -6

MOST_PARTS = 32
MOST_MORE = 16
LONGEST_WAIT = 16

LONGEST_PART = 64
LENGTH_BYTES = 2
GROUP_LIMIT = 4294967296
REACH = 64
