"""All that a desk knows at one time.

A change is made to a copy of the state: what is refused leaves the one before as it was.
So deals, items and payments are never changed themselves; others are put in their places.
"""

from payingpromises.words import NAMES


class Deal:
    """A promise signed by its holder and the other side on some day.

    wanting: the side that last wanted it ended, None if neither does. over: whether both did.
    """

    def __init__(self, holder, other, day, wanting, over):
        self.holder = holder
        self.other = other
        self.day = day
        self.wanting = wanting
        self.over = over


class Item:
    """A promise that somebody holds from somebody, so many times, of a deal.

    number: 0 as long as it has none.
    looked: the day on which its condition was last looked at and did not hold, -1 before.
    """

    def __init__(self, deal, holder, other, times, promise):
        self.number = 0
        self.deal = deal
        self.holder = holder
        self.other = other
        self.times = times
        self.promise = promise
        self.looked = -1


def item_between(item, holder, other):
    """The item as it is, but between these."""
    same = Item(item.deal, holder, other, item.times, item.promise)
    same.number = item.number
    same.looked = item.looked
    return same


class Payment:
    """So much of a unit, above 0, that came of a deal on some day."""

    def __init__(self, day, deal, giver, taker, unit, amount):
        self.day = day
        self.deal = deal
        self.giver = giver
        self.taker = taker
        self.unit = unit
        self.amount = amount


class State:
    """pending: the items, by rising number. numbered: how many numbers items have been given.

    seen: the names whose values are seen today, as bits. worths: the values, by name, of those alone.
    """

    def __init__(self, parties):
        self.parties = parties
        self.day = 0
        self.shelf = []
        self.deals = []
        self.pending = []
        self.numbered = 0
        self.payments = []
        self.seen = 0
        self.worths = [0 for name in NAMES]


def copy_of(state):
    copied = State(state.parties)
    copied.day = state.day
    copied.shelf = list(state.shelf)
    copied.deals = list(state.deals)
    copied.pending = list(state.pending)
    copied.numbered = state.numbered
    copied.payments = list(state.payments)
    copied.seen = state.seen
    copied.worths = list(state.worths)
    return copied
