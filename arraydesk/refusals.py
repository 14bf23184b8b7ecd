"""The numbers by which a call is refused."""

WRONG = -1
EMPTY = -2
UNLIKE = -3
NOWHERE = -4
NOTHING = -5
BEYOND = -6
NO_TEXT = -8
