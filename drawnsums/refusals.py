"""The numbers that refusals are answered by."""

NOT_BEGUN = -61
NOT_THERE = -2
DOES_NOT_FIT = -22
FULL = -28
TOO_MUCH = -75
NEVER_THERE = -33
