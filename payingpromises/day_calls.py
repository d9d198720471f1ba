"""The calls by which a day goes on: values are seen, who may choose chooses, and the day is closed."""

from payingpromises.bounds import LAST_DAY, can_be_seen
from payingpromises.holding import find_item, keep_change
from payingpromises.refusals import ALREADY, FULL, NO_SUCH, NOT_THEIRS, OUT_OF_PLACE, TOO_MUCH, UNSEEN, WRONG
from payingpromises.state import copy_of
from payingpromises.words import NAMES
from payingpromises.working import had, names_awaited, work_out, work_out_all


def see_value(desk, o, value):
    if o >= len(NAMES) or not can_be_seen(value):
        return [WRONG]
    name = 1 << o
    if (desk.now.seen & name) != 0:
        return [ALREADY]
    changed = copy_of(desk.now)
    changed.seen = changed.seen | name
    changed.worths[o] = value
    if not work_out_all(changed):
        return [TOO_MUCH]
    keep_change(desk, changed)
    return [0]


def choose_one(desk, who, i, which):
    item = find_item(desk, i)
    if item is None:
        return [NO_SUCH]
    if item.promise.word != "or":
        return [OUT_OF_PLACE]
    if item.holder != who:
        return [NOT_THEIRS]
    if which >= len(item.promise.parts):
        return [WRONG]
    return have_instead(desk, item, item.promise.parts[which])


def take_now(desk, who, i):
    item = find_item(desk, i)
    if item is None:
        return [NO_SUCH]
    if item.promise.word != "any":
        return [OUT_OF_PLACE]
    if item.holder != who:
        return [NOT_THEIRS]
    return have_instead(desk, item, item.promise.parts[1])


def have_instead(desk, item, promise):
    """The item's holder has this promise in the item's place."""
    changed = copy_of(desk.now)
    changed.pending = [other for other in changed.pending if other.number != item.number]
    if not work_out(changed, [had(item, promise)]):
        return [TOO_MUCH]
    keep_change(desk, changed)
    return [0]


def close_day(desk):
    if desk.now.day >= LAST_DAY:
        return [FULL]
    changed = copy_of(desk.now)
    if not settle_ors(changed):
        return [TOO_MUCH]
    if names_awaited(changed) != 0:
        return [UNSEEN]
    changed.day = changed.day + 1
    changed.seen = 0
    if not work_out_all(changed):
        return [TOO_MUCH]
    keep_change(desk, changed)
    return [changed.day]


def settle_ors(state):
    """Makes each or its first one till there is none left. False: that is too much."""
    while any([item.promise.word == "or" for item in state.pending]):
        state.pending = [unchosen(item) for item in state.pending]
        if not work_out_all(state):
            return False
    return True


def unchosen(item):
    """What an item is when nobody has chosen till the day's end."""
    return had(item, item.promise.parts[0]) if item.promise.word == "or" else item


def tell_day(desk):
    return [desk.now.day, names_awaited(desk.now), len(desk.before), len(desk.undone)]
