"""The numbers by which a call is refused."""

NO_HALL = -61
UNKNOWN = -2
WRONG = -22
GOVERNED = -16
FULL = -28
ALREADY = -17
ABSENT = -6
IMPOSSIBLE = -33
