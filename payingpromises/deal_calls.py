"""The calls about parties, deals, items and values. Each answers a list, as those of the shelf do."""

from payingpromises.bounds import FEWEST_PARTIES, MOST_DEALS, MOST_PARTIES, can_be_seen
from payingpromises.holding import has_promise, keep_change
from payingpromises.reading import bytes_of
from payingpromises.refusals import ALREADY, FULL, NO_SUCH, TOO_MUCH, WRONG
from payingpromises.state import Deal, Item, State, copy_of
from payingpromises.words import NAMES
from payingpromises.working import work_out


def begin_anew(desk, parties):
    if parties < FEWEST_PARTIES or parties > MOST_PARTIES:
        return [WRONG]
    desk.now = State(parties)
    return [0]


def sign_deal(desk, holder, other, c):
    if not has_promise(desk, c):
        return [NO_SUCH]
    now = desk.now
    if holder >= now.parties or other >= now.parties or holder == other:
        return [WRONG]
    number = len(now.deals)
    if number >= MOST_DEALS:
        return [FULL]
    changed = copy_of(now)
    changed.deals.append(Deal(holder, other, now.day, False))
    if not work_out(changed, [Item(number, holder, other, 1, now.shelf[c])]):
        return [TOO_MUCH]
    keep_change(desk, changed)
    return [number]


def tell_deal(desk, k):
    if k >= len(desk.now.deals):
        return [NO_SUCH]
    deal = desk.now.deals[k]
    pending = [item for item in desk.now.pending if item.deal == k]
    return [1 if deal.over else 0, deal.holder, deal.other, deal.day, len(pending)]


def tell_items(desk):
    numbers = [item.number for item in desk.now.pending]
    return [len(numbers)] + numbers


def tell_item(desk, i):
    for item in desk.now.pending:
        if item.number == i:
            return [item.deal, item.holder, item.other, item.times] + bytes_of(item.promise)
    return [NO_SUCH]


def see_value(desk, o, value):
    if o >= len(NAMES) or not can_be_seen(value):
        return [WRONG]
    name = 1 << o
    if (desk.now.seen & name) != 0:
        return [ALREADY]
    changed = copy_of(desk.now)
    changed.seen = changed.seen | name
    changed.worths[o] = value
    pending = changed.pending
    changed.pending = []
    if not work_out(changed, pending):
        return [TOO_MUCH]
    keep_change(desk, changed)
    return [0]
