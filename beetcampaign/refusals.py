"""The numbers that refusals answer."""

ABSENT = -2
NOTHING = -6
OCCUPIED = -16
ALREADY = -17
WRONG = -22
FULL = -28
IMPOSSIBLE = -33
