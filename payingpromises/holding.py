"""The object that calls are made on, and how it is changed."""

from payingpromises.bounds import MOST_SHELVED, MOST_UNDONE
from payingpromises.refusals import FULL
from payingpromises.state import State, copy_of


class Desk:
    """now: the state as it is; without parties till a begin is answered 0.

    before: the states ahead of the last changes, the newest last.
    undone: the states that were left by undoing since the last change, the newest last.
    """

    def __init__(self):
        self.now = State(0)
        self.before = []
        self.undone = []


def start_anew(desk, parties):
    desk.now = State(parties)
    desk.before = []
    desk.undone = []


def keep_change(desk, changed):
    """Every change goes through here, and none that is refused."""
    desk.before.append(desk.now)
    if len(desk.before) > MOST_UNDONE:
        desk.before = desk.before[1:]
    desk.undone = []
    desk.now = changed


def has_promise(desk, c):
    return c < len(desk.now.shelf)


def has_deal(desk, k):
    return k < len(desk.now.deals)


def find_item(desk, i):
    """The item with this number, or None."""
    for item in desk.now.pending:
        if item.number == i:
            return item
    return None


def is_full(desk):
    return len(desk.now.shelf) >= MOST_SHELVED


def shelve(desk, promise):
    """One more on the shelf."""
    if is_full(desk):
        return [FULL]
    changed = copy_of(desk.now)
    changed.shelf.append(promise)
    keep_change(desk, changed)
    return [len(changed.shelf) - 1]
