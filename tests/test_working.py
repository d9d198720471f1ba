"""How items are worked out on days that are further on, and what is booked."""

import unittest

from payingpromises.reading import read_promise
from payingpromises.state import Item, State, copy_of
from payingpromises.working import work_out
from tests.helper import raw


def signed(text, day=0, seen=None):
    """A state of that day in which the promise was signed between 0 and 1; seen: names and their values."""
    state = State(2)
    state.day = day
    show(state, seen or {})
    assert work_out(state, [Item(7, 0, 1, 1, read_promise(raw(text)))])
    return state


def show(state, seen):
    state.seen = sum(1 << "abcdefgh".index(name) for name in seen)
    state.worths = [seen.get(name, 0) for name in "abcdefgh"]


def on_day(state, day, seen):
    """The state on a later day, with these values, all worked out."""
    later = copy_of(state)
    later.day = day
    show(later, seen)
    items = later.pending
    later.pending = []
    assert work_out(later, items)
    return later


def texts(state):
    return [(item.number, item.promise.text) for item in state.pending]


def booked(state):
    return [(pay.day, pay.deal, pay.giver, pay.taker, pay.unit, pay.amount) for pay in state.payments]


class Days(unittest.TestCase):
    def test_at_till_its_day(self):
        state = signed("at(5,one(A))", 3)
        self.assertEqual(texts(state), [(1, "at(5,one(A))")])
        self.assertEqual(texts(on_day(state, 4, {})), [(1, "at(5,one(A))")])
        self.assertEqual(booked(on_day(state, 5, {})), [(5, 7, 1, 0, 0, 1)])
        self.assertEqual(texts(on_day(state, 5, {})), [])

    def test_gone_by_it_is_nothing(self):
        for text in ("at(5,one(A))", "any(5,one(A))", "when(5,le(0,0),one(A))", "when(5,le(a,0),one(A))"):
            state = signed(text, 6)
            self.assertEqual((texts(state), booked(state)), ([], []))

    def test_or_till_it_is_chosen(self):
        state = signed("or(at(2,one(A)),one(B))", 3)
        self.assertEqual(texts(state), [(1, "or(at(2,one(A)),one(B))")])
        self.assertEqual(texts(on_day(state, 1000, {})), [(1, "or(at(2,one(A)),one(B))")])

    def test_times_and_if_wait_from_day_to_day(self):
        for text in ("times(a,one(A))", "if(le(a,0),one(A),one(B))"):
            state = signed(text, 3)
            self.assertEqual(texts(on_day(state, 1000, {"b": 1})), [(1, text)])
            self.assertEqual(texts(on_day(state, 1000, {"a": 1})), [])

    def test_any_till_its_day_has_gone_by(self):
        state = signed("any(5,one(A))", 3)
        self.assertEqual(texts(on_day(state, 5, {})), [(1, "any(5,one(A))")])
        self.assertEqual(texts(on_day(state, 6, {})), [])

    def test_when_on_the_first_day_on_which_it_holds(self):
        state = signed("when(5,le(a,0),one(B))", 3, {"a": 1})
        self.assertEqual((texts(state), booked(state)), ([(1, "when(5,le(a,0),one(B))")], []))
        state = on_day(state, 4, {"a": 2})
        self.assertEqual(texts(state), [(1, "when(5,le(a,0),one(B))")])
        self.assertEqual(texts(on_day(state, 5, {})), [(1, "when(5,le(a,0),one(B))")])
        self.assertEqual(texts(on_day(state, 5, {"a": 1})), [(1, "when(5,le(a,0),one(B))")])
        self.assertEqual(booked(on_day(state, 5, {"a": 0})), [(5, 7, 1, 0, 1, 1)])
        self.assertEqual((texts(on_day(state, 6, {})), booked(on_day(state, 6, {"a": 0}))), ([], []))

    def test_a_when_is_not_looked_at_again_today(self):
        state = signed("when(5,le(a,0),one(B))", 3, {"a": 1})
        self.assertEqual(texts(on_day(state, 3, {"a": 0})), [(1, "when(5,le(a,0),one(B))")])
        self.assertEqual(booked(on_day(state, 4, {"a": 0})), [(4, 7, 1, 0, 1, 1)])

    def test_a_when_that_waited_today_is_still_looked_at(self):
        state = signed("when(5,le(a,0),one(B))", 3)
        self.assertEqual(booked(on_day(state, 3, {"a": 0})), [(3, 7, 1, 0, 1, 1)])
        # Looking belongs to the copy: the state before is as it was.
        on_day(state, 3, {"a": 1})
        self.assertEqual(booked(on_day(state, 3, {"a": 0})), [(3, 7, 1, 0, 1, 1)])


class Payments(unittest.TestCase):
    def test_who_gives_and_who_gets(self):
        self.assertEqual(booked(signed("one(A)")), [(0, 7, 1, 0, 0, 1)])
        self.assertEqual(booked(signed("turn(one(B))")), [(0, 7, 0, 1, 1, 1)])
        self.assertEqual(booked(signed("times(-5,one(C))")), [(0, 7, 0, 1, 2, 5)])
        self.assertEqual(booked(signed("times(-1,one(C))")), [(0, 7, 0, 1, 2, 1)])
        self.assertEqual(booked(signed("turn(times(-5,one(D)))", 9)), [(9, 7, 1, 0, 3, 5)])
        self.assertEqual(booked(signed("times(0,one(A))")), [])

    def test_in_order(self):
        self.assertEqual([pay[4] for pay in booked(signed("both(both(one(C),one(A)),both(one(D),one(B)))"))], [2, 0, 3, 1])

    def test_by_what_is_seen(self):
        text = "if(lt(a,b),times(mul(a,b),one(A)),times(sub(a,b),one(B)))"
        self.assertEqual(booked(signed(text, 0, {"a": 3, "b": 4})), [(0, 7, 1, 0, 0, 12)])
        self.assertEqual(booked(signed(text, 0, {"a": 9, "b": 4})), [(0, 7, 1, 0, 1, 5)])
        self.assertEqual(booked(signed(text, 0, {"a": 9})), [])


if __name__ == "__main__":
    unittest.main()
