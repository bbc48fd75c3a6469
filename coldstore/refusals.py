"""The numbers that refused calls answer."""

NOT_THERE = -2
NO_LOT = -6
NOT_BEGUN = -11
ALREADY = -17
OUT_OF_RANGE = -22
NO_ROOM = -28
CANNOT_BE = -33
SPOILED = -74
