"""The calls about parties, deals and items. Each answers a list, as those of the shelf do."""

from payingpromises.bounds import FEWEST_PARTIES, MOST_DEALS, MOST_PARTIES
from payingpromises.holding import find_item, has_deal, has_promise, keep_change, start_anew
from payingpromises.reading import bytes_of
from payingpromises.refusals import ALREADY, FULL, NO_SUCH, NOT_THEIRS, OUT_OF_PLACE, TOO_MUCH, WRONG
from payingpromises.state import Deal, Item, copy_of, item_between
from payingpromises.working import work_out


def begin_anew(desk, parties):
    if parties < FEWEST_PARTIES or parties > MOST_PARTIES:
        return [WRONG]
    start_anew(desk, parties)
    return [0]


def sign_deal(desk, holder, other, c):
    if not has_promise(desk, c):
        return [NO_SUCH]
    now = desk.now
    if holder >= now.parties or other >= now.parties or holder == other:
        return [WRONG]
    number = len(now.deals)
    if number >= MOST_DEALS:
        return [FULL]
    changed = copy_of(now)
    changed.deals.append(Deal(holder, other, now.day, None, False))
    if not work_out(changed, [Item(number, holder, other, 1, now.shelf[c])]):
        return [TOO_MUCH]
    keep_change(desk, changed)
    return [number]


def tell_deal(desk, k):
    if not has_deal(desk, k):
        return [NO_SUCH]
    deal = desk.now.deals[k]
    pending = [item for item in desk.now.pending if item.deal == k]
    return [1 if deal.over else 0, deal.holder, deal.other, deal.day, len(pending)]


def tell_items(desk):
    numbers = [item.number for item in desk.now.pending]
    return [len(numbers)] + numbers


def tell_item(desk, i):
    item = find_item(desk, i)
    if item is None:
        return [NO_SUCH]
    return [item.deal, item.holder, item.other, item.times] + bytes_of(item.promise)


def is_side(deal, party):
    return party == deal.holder or party == deal.other


def assign_side(desk, who, k, to):
    if not has_deal(desk, k):
        return [NO_SUCH]
    if to >= desk.now.parties:
        return [WRONG]
    deal = desk.now.deals[k]
    if not is_side(deal, who):
        return [NOT_THEIRS]
    if is_side(deal, to):
        return [ALREADY]
    if deal.over:
        return [OUT_OF_PLACE]
    changed = copy_of(desk.now)
    changed.deals[k] = Deal(stand_in(deal.holder, who, to), stand_in(deal.other, who, to), deal.day, None, False)
    changed.pending = [taken_over(item, k, who, to) for item in changed.pending]
    keep_change(desk, changed)
    return [0]


def stand_in(party, who, to):
    return to if party == who else party


def taken_over(item, k, who, to):
    """The item once this party stands for who in its deal, if that is the deal k."""
    if item.deal != k:
        return item
    return item_between(item, stand_in(item.holder, who, to), stand_in(item.other, who, to))


def cancel_deal(desk, who, k):
    if not has_deal(desk, k):
        return [NO_SUCH]
    deal = desk.now.deals[k]
    if not is_side(deal, who):
        return [NOT_THEIRS]
    if deal.over:
        return [OUT_OF_PLACE]
    if deal.wanting == who:
        return [ALREADY]
    over = deal.wanting is not None
    changed = copy_of(desk.now)
    changed.deals[k] = Deal(deal.holder, deal.other, deal.day, who, over)
    if over:
        changed.pending = [item for item in changed.pending if item.deal != k]
    keep_change(desk, changed)
    return [1 if over else 0]
