"""The calls on one object, told in one list, and their answers, told in one list."""

from payingpromises.day_calls import choose_one, close_day, see_value, take_now, tell_day
from payingpromises.deal_calls import assign_side, begin_anew, cancel_deal, sign_deal, tell_deal, tell_item, tell_items
from payingpromises.holding import Desk
from payingpromises.payment_calls import tell_balance, tell_net, tell_pay, tell_pays
from payingpromises.shelf_calls import read_text, shelve_made, shelve_tidied, tell_about, tell_same, tell_text, try_out
from payingpromises.undo_calls import redo_change, undo_change

# How many whole numbers each call has ahead of its row, by the call's number.
WHOLES = (1, 0, 1, 1, 1, 2, 4, 2, 3, 1, 0, 1, 2, 3, 2, 0, 0, 0, 1, 1, 1, 3, 2, 0, 0)
READ = 1
TRIAL = 7


def on_begin(desk, told):
    return begin_anew(desk, told[0])


def on_read(desk, told):
    return read_text(desk, told[0])


def on_write(desk, told):
    return tell_text(desk, told[0])


def on_about(desk, told):
    return tell_about(desk, told[0])


def on_tidy(desk, told):
    return shelve_tidied(desk, told[0])


def on_same(desk, told):
    return tell_same(desk, told[0], told[1])


def on_make(desk, told):
    return shelve_made(desk, told[0], told[1], told[2], told[3])


def on_trial(desk, told):
    return try_out(desk, told[0], told[1], told[2])


def on_sign(desk, told):
    return sign_deal(desk, told[0], told[1], told[2])


def on_deal(desk, told):
    return tell_deal(desk, told[0])


def on_items(desk, told):
    return tell_items(desk)


def on_item(desk, told):
    return tell_item(desk, told[0])


def on_see(desk, told):
    return see_value(desk, told[0], told[1])


def on_choose(desk, told):
    return choose_one(desk, told[0], told[1], told[2])


def on_take(desk, told):
    return take_now(desk, told[0], told[1])


def on_close(desk, told):
    return close_day(desk)


def on_day(desk, told):
    return tell_day(desk)


def on_pays(desk, told):
    return tell_pays(desk)


def on_pay(desk, told):
    return tell_pay(desk, told[0])


def on_balance(desk, told):
    return tell_balance(desk, told[0])


def on_net(desk, told):
    return tell_net(desk, told[0])


def on_assign(desk, told):
    return assign_side(desk, told[0], told[1], told[2])


def on_cancel(desk, told):
    return cancel_deal(desk, told[0], told[1])


def on_undo(desk, told):
    return undo_change(desk)


def on_redo(desk, told):
    return redo_change(desk)


HANDLERS = (
    on_begin,
    on_read,
    on_write,
    on_about,
    on_tidy,
    on_same,
    on_make,
    on_trial,
    on_sign,
    on_deal,
    on_items,
    on_item,
    on_see,
    on_choose,
    on_take,
    on_close,
    on_day,
    on_pays,
    on_pay,
    on_balance,
    on_net,
    on_assign,
    on_cancel,
    on_undo,
    on_redo,
)


def answers(calls):
    """For each call how many numbers are answered, and these."""
    desk = Desk()
    answered = []
    place = 0
    while place < len(calls):
        number = calls[place]
        start = place + 1
        place = start + WHOLES[number]
        told = calls[start:place]
        if number == READ or number == TRIAL:
            start = place + 1
            place = start + calls[place]
            told.append(calls[start:place])
        handler = HANDLERS[number]
        answer = handler(desk, told)
        answered.append(len(answer))
        answered.extend(answer)
    return answered
