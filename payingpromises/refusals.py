"""What is refused is answered by one of these numbers."""

NO_SUCH = -2
ALREADY = -17
WRONG = -22
FULL = -28
UNFIT = -33
NO_TEXT = -71
TOO_MUCH = -75
