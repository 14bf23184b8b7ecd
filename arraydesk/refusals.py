"""The numbers by which a call is refused."""

WRONG = -1
EMPTY = -2
UNLIKE = -3
NOWHERE = -4
BEYOND = -6
