"""The numbers that refusals are answered with."""

NO_SUCH = -2
NOT_NOW = -11
BUSY = -16
ALREADY = -17
NOT_AS_TOLD = -22
FULL = -28
TOO_LITTLE = -61
OTHER_PATIENT = -71
