"""The calls about promises on the shelf. Each answers a list: a number, and what is told beside it."""

from payingpromises.bounds import LAST_DAY, MOST_AMOUNT, MOST_BYTES, MOST_PAYMENTS, can_be_seen, is_day, is_short
from payingpromises.holding import has_promise, is_full, shelve
from payingpromises.parts import day_part, joined, number_part
from payingpromises.reading import bytes_of, read_promise
from payingpromises.refusals import FULL, NO_SUCH, NO_TEXT, TOO_MUCH, UNFIT, WRONG
from payingpromises.tidying import tidied
from payingpromises.trying import tried

KINDS = ("both", "or", "turn", "times", "at", "any")


def read_text(desk, numbers):
    promise = read_promise(numbers)
    if promise is None:
        return [NO_TEXT]
    return shelve(desk, promise)


def tell_text(desk, c):
    if not has_promise(desk, c):
        return [NO_SUCH]
    told = bytes_of(desk.now.shelf[c])
    return [len(told)] + told


def tell_about(desk, c):
    if not has_promise(desk, c):
        return [NO_SUCH]
    promise = desk.now.shelf[c]
    return [promise.size, promise.last, promise.names, 1 if promise.plain else 0]


def shelve_tidied(desk, c):
    if not has_promise(desk, c):
        return [NO_SUCH]
    # Asked ahead, so that a full shelf costs no tidying.
    if is_full(desk):
        return [FULL]
    return shelve(desk, tidied(desk.now.shelf[c]))


def tell_same(desk, c, d):
    if not has_promise(desk, c) or not has_promise(desk, d):
        return [NO_SUCH]
    return [1 if desk.now.shelf[c].text == desk.now.shelf[d].text else 0]


def shelve_made(desk, kind, a, b, x):
    # Kinds 0 and 1, both and or, alone have a second one.
    if not has_promise(desk, a) or (kind < 2 and not has_promise(desk, b)):
        return [NO_SUCH]
    if not can_make(kind, x):
        return [WRONG]
    promise = made(desk.now.shelf, kind, a, b, x)
    if len(promise.text) > MOST_BYTES:
        return [UNFIT]
    return shelve(desk, promise)


def can_make(kind, x):
    if kind >= len(KINDS):
        return False
    if KINDS[kind] == "times":
        return is_short(x)
    if KINDS[kind] == "at" or KINDS[kind] == "any":
        return is_day(x)
    return True


def made(shelf, kind, a, b, x):
    word = KINDS[kind]
    if word == "both" or word == "or":
        return joined(word, (shelf[a], shelf[b]))
    if word == "turn":
        return joined(word, (shelf[a],))
    if word == "times":
        return joined(word, (number_part(x), shelf[a]))
    return joined(word, (day_part(x), shelf[a]))


def try_out(desk, c, day, worths):
    if not has_promise(desk, c):
        return [NO_SUCH]
    if day > LAST_DAY or not all([can_be_seen(value) for value in worths]):
        return [WRONG]
    promise = desk.now.shelf[c]
    if not promise.plain:
        return [UNFIT]
    payments = tried(promise, day, worths)
    told = [len(payments)]
    for payment in payments:
        if abs(payment[2]) > MOST_AMOUNT:
            return [TOO_MUCH]
        told.extend(payment)
    return [TOO_MUCH] if len(payments) > MOST_PAYMENTS else told
