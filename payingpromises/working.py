"""Items worked out: each is done as far as it can be now."""

from payingpromises.amounts import result_of
from payingpromises.bounds import MOST_AMOUNT, MOST_ITEMS, MOST_PAYMENTS
from payingpromises.state import Item, Payment


def work_out(state, items):
    """Works these items out, one behind another, and puts what stays behind those that pend.

    False: that is too much, and the state is of no more use.
    """
    todo = list(reversed(items))
    staying = []
    coming = []
    while len(todo) > 0:
        item = todo.pop()
        if abs(item.times) > MOST_AMOUNT:
            return False
        came = what_comes(state, item)
        if came is not None:
            todo.extend(list(reversed(came)))
        elif item.number > 0:
            staying.append(kept(state, item, item.number))
        else:
            state.numbered = state.numbered + 1
            coming.append(kept(state, item, state.numbered))
    state.pending = state.pending + staying + coming
    return len(state.pending) <= MOST_ITEMS and len(state.payments) <= MOST_PAYMENTS


def work_out_all(state):
    """Works all items out that pend. False: that is too much."""
    items = state.pending
    state.pending = []
    return work_out(state, items)


def kept(state, item, number):
    """The item as it stays today, under this number."""
    same = had(item, item.promise)
    same.number = number
    if item.promise.word == "when" and not waits(state, item):
        same.looked = state.day
    return same


def waits(state, item):
    return (names_measured(item.promise) & ~state.seen) != 0


def names_measured(promise):
    """The names that stand in the amount or condition of a times, an if or a when, as bits."""
    if promise.word == "times" or promise.word == "if":
        return promise.parts[0].names
    if promise.word == "when":
        return promise.parts[1].names
    return 0


def names_awaited(state):
    """The names for whose values some item waits now, as bits."""
    names = 0
    for item in state.pending:
        names = names | names_measured(item.promise)
    return names & ~state.seen


def what_comes(state, item):
    """What comes of the item now, in order; None if it can't be done yet."""
    word = item.promise.word
    parts = item.promise.parts
    if word == "nothing":
        return []
    if word == "one":
        book(state, item)
        return []
    if word == "both":
        return [had(item, parts[0]), had(item, parts[1])]
    if word == "or":
        return None
    if word == "turn":
        return [Item(item.deal, item.other, item.holder, item.times, parts[0])]
    if word == "times" or word == "if":
        return None if waits(state, item) else what_is_measured(state, item)
    return what_is_dated(state, item)


def had(item, promise):
    """What holds another promise in the same way."""
    return Item(item.deal, item.holder, item.other, item.times, promise)


def book(state, item):
    unit = item.promise.parts[0].value
    if item.times > 0:
        state.payments.append(Payment(state.day, item.deal, item.other, item.holder, unit, item.times))
    if item.times < 0:
        state.payments.append(Payment(state.day, item.deal, item.holder, item.other, unit, -item.times))


def what_is_measured(state, item):
    """What comes of a times or an if whose values are all seen."""
    parts = item.promise.parts
    result = result_of(parts[0], state.worths)
    if item.promise.word == "times":
        return [Item(item.deal, item.holder, item.other, item.times * result, parts[1])]
    return [had(item, parts[1] if result else parts[2])]


def what_is_dated(state, item):
    """What comes of an at, a when or an any: nothing once its day has gone by."""
    word = item.promise.word
    parts = item.promise.parts
    last = parts[0].value
    if state.day > last:
        return []
    if word == "at" and state.day == last:
        return [had(item, parts[1])]
    if word == "when" and item.looked < state.day and not waits(state, item):
        if result_of(parts[1], state.worths):
            return [had(item, parts[2])]
    return None
