"""What is answered in the place of a call that is refused."""

NONE_THERE = -2
NOBODY = -6
TOO_FEW = -12
SO_ALREADY = -17
WRONG = -22
FULL = -28
UNWATCHED = -33
TOO_LATE = -75
