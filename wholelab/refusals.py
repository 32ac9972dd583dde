"""The numbers that refusals are answered with."""

NO_SUCH = -2
STANDS_THERE = -17
NOT_AS_TOLD = -22
FULL = -28
TOO_LITTLE = -61
