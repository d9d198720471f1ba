"""How much of anything there can be, in one place."""

FEWEST_PARTIES = 2
MOST_PARTIES = 6
MOST_SHELVED = 16
MOST_DEALS = 16
MOST_ITEMS = 48
MOST_PAYMENTS = 400
MOST_UNDONE = 32
# How often something is had, or how much is paid, either way.
MOST_AMOUNT = 1000000000000

LAST_DAY = 1000
MOST_BYTES = 600
MOST_DIGITS = 9
MOST_NUMBER = 999999999
MOST_SEEN = 1000000


def is_day(number):
    return 0 <= number <= LAST_DAY


def is_short(number):
    """Whether a number has few enough digits to stand in a text."""
    return -MOST_NUMBER <= number <= MOST_NUMBER


def can_be_seen(value):
    return -MOST_SEEN <= value <= MOST_SEEN
