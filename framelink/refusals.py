"""The refusals: a call that is refused answers one of these alone."""

WRONG = -1
NOT_THERE = -2
NO_FRAME = -3
NOT_NOW = -4
FULL = -5
TOO_LONG = -7
