"""The calls that undo changes and do them again.

A state is never changed once it is kept, so that going back and forth is putting another one in its place.
"""

from payingpromises.refusals import NONE_LEFT


def undo_change(desk):
    if len(desk.before) == 0:
        return [NONE_LEFT]
    desk.undone.append(desk.now)
    desk.now = desk.before.pop()
    return [len(desk.before)]


def redo_change(desk):
    if len(desk.undone) == 0:
        return [NONE_LEFT]
    desk.before.append(desk.now)
    desk.now = desk.undone.pop()
    return [len(desk.undone)]
