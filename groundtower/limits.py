"""The refusals that calls answer, and the largest numbers that the ground knows."""

WRONG = -22
BUSY = -2
CROSSED = -11
GARBLED = -71

LAST_VEHICLE = 63
LAST_NUMBER = 2147483647
MOST_PIECES = 256
MOST_PAIRS = 1024
LONGEST_WAY = 64
TICKS_OF_ROUND = 10
