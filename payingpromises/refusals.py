"""What is refused is answered by one of these numbers."""

NOT_THEIRS = -1
NO_SUCH = -2
NONE_LEFT = -6
OUT_OF_PLACE = -16
ALREADY = -17
WRONG = -22
FULL = -28
UNFIT = -33
UNSEEN = -61
NO_TEXT = -71
TOO_MUCH = -75
