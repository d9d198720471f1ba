"""The object that calls are made on, and how it is changed."""

from payingpromises.bounds import MOST_SHELVED
from payingpromises.refusals import FULL
from payingpromises.state import State, copy_of


class Desk:
    """now: the state as it is; without parties till a begin is answered 0."""

    def __init__(self):
        self.now = State(0)


def keep_change(desk, changed):
    """Every change goes through here, and none that is refused."""
    desk.now = changed


def has_promise(desk, c):
    return c < len(desk.now.shelf)


def is_full(desk):
    return len(desk.now.shelf) >= MOST_SHELVED


def shelve(desk, promise):
    """One more on the shelf."""
    if is_full(desk):
        return [FULL]
    changed = copy_of(desk.now)
    changed.shelf.append(promise)
    keep_change(desk, changed)
    return [len(changed.shelf) - 1]
