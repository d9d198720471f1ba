"""The calls about what was paid."""

from payingpromises.refusals import NO_SUCH, WRONG
from payingpromises.words import UNITS


def tell_pays(desk):
    return [len(desk.now.payments)]


def tell_pay(desk, k):
    if k >= len(desk.now.payments):
        return [NO_SUCH]
    payment = desk.now.payments[k]
    return [payment.day, payment.deal, payment.giver, payment.taker, payment.unit, payment.amount]


def tell_balance(desk, p):
    if p >= desk.now.parties:
        return [WRONG]
    return [0] + gains(desk.now.payments, p)


def tell_net(desk, day):
    if day > desk.now.day:
        return [WRONG]
    payments = [payment for payment in desk.now.payments if payment.day == day]
    told = [0]
    for party in range(desk.now.parties):
        told.extend(gains(payments, party))
    return told


def gains(payments, party):
    """Of each unit how much the party has got by these payments, less what it gave."""
    sums = [0 for unit in UNITS]
    for payment in payments:
        if payment.taker == party:
            sums[payment.unit] = sums[payment.unit] + payment.amount
        if payment.giver == party:
            sums[payment.unit] = sums[payment.unit] - payment.amount
    return sums
