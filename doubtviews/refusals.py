"""The numbers that a refused call is answered by."""

NO_VIEW = -2
NOT_BEGUN = -11
TAKEN = -17
WRONG = -22
FULL = -28
