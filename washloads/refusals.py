"""The numbers that a refused call answers."""

NOT_THERE = -2
IS_BROKEN = -4
NOTHING_THERE = -6
WRONG_STATE = -16
ALREADY = -17
OUT_OF_RANGE = -22
FULL = -28
NO_LOAD = -33
NONE_APART = -33
NOT_ALL_WASHED = -61
NO_LABEL = -71
