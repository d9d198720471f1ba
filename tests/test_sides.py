"""Point 11: assign, cancel."""

import unittest

from tests.helper import ask, item_of
from tests.test_choose import signed

BIG = 4294967295
MIXED = "both(or(one(A),one(B)),both(turn(any(5,one(C))),both(at(1,one(D)),times(a,one(A)))))"


class Assign(unittest.TestCase):
    def test_to_stands_for_the_holder(self):
        found = signed(MIXED, ("assign", 0, 0, 2), ("deal", 0), ("items",), *[("item", i) for i in (1, 2, 3, 4)])
        self.assertEqual(found[:3], [[0], [0, 2, 1, 0, 4], [4, 1, 2, 3, 4]])
        self.assertEqual([item_of(answer)[:4] for answer in found[3:]],
                         [(0, 2, 1, 1), (0, 1, 2, 1), (0, 2, 1, 1), (0, 2, 1, 1)])

    def test_to_stands_for_the_other_side(self):
        found = signed(MIXED, ("assign", 1, 0, 2), ("deal", 0), ("items",), *[("item", i) for i in (1, 2, 3, 4)])
        self.assertEqual(found[:3], [[0], [0, 0, 2, 0, 4], [4, 1, 2, 3, 4]])
        self.assertEqual([item_of(answer)[:4] for answer in found[3:]],
                         [(0, 0, 2, 1), (0, 2, 0, 1), (0, 0, 2, 1), (0, 0, 2, 1)])

    def test_who_had_it_has_it_no_more(self):
        found = signed(MIXED, ("assign", 0, 0, 2), ("choose", 0, 1, 0), ("choose", 2, 1, 0), ("take", 2, 2), ("take", 1, 2),
                       ("pay", 0), ("pay", 1), ("assign", 0, 0, 1), ("cancel", 0, 0))
        self.assertEqual(found, [[0], [-1], [0], [-1], [0], [0, 0, 1, 2, 0, 1], [0, 0, 2, 1, 2, 1], [-1], [-1]])

    def test_what_was_paid_stays(self):
        found = signed("both(one(A),at(1,one(B)))", ("assign", 0, 0, 2), ("close",), ("pay", 0), ("pay", 1), ("balance", 0),
                       ("balance", 2), ("deal", 0))
        self.assertEqual(found[2:], [[0, 0, 1, 0, 0, 1], [1, 0, 1, 2, 1, 1], [0, 1, 0, 0, 0], [0, 0, 1, 0, 0], [0, 2, 1, 0, 0]])

    def test_other_deals_are_left_alone(self):
        found = ask(("read", "any(5,one(A))"), ("sign", 0, 1, 0), ("sign", 0, 1, 0), ("sign", 1, 0, 0), ("assign", 0, 1, 2),
                    ("deal", 0), ("deal", 1), ("deal", 2), ("item", 1), ("item", 2), ("item", 3))
        self.assertEqual(found[4:8], [[0], [0, 0, 1, 0, 1], [0, 2, 1, 0, 1], [0, 1, 0, 0, 1]])
        self.assertEqual([item_of(answer)[:3] for answer in found[8:]], [(0, 0, 1), (1, 2, 1), (2, 1, 0)])

    def test_nothing_is_worked_out_and_nothing_forgotten(self):
        text = "when(3,le(a,0),one(A))"
        found = signed(text, ("see", 0, 1), ("assign", 0, 0, 2), ("items",), ("day",), ("close",), ("see", 0, 0), ("pay", 0))
        self.assertEqual(found[1:], [[0], [1, 1], [0, 0, 4, 0], [1], [0], [1, 0, 1, 2, 0, 1]])

    def test_how_often_stays(self):
        found = signed("times(-7,any(5,one(A)))", ("assign", 1, 0, 2), ("item", 1), ("take", 0, 1), ("pay", 0))
        self.assertEqual(item_of(found[1]), (0, 0, 2, -7, "any(5,one(A))"))
        self.assertEqual(found[3], [0, 0, 0, 2, 0, 7])

    def test_there_and_back(self):
        found = signed(MIXED, ("assign", 0, 0, 2), ("assign", 1, 0, 0), ("assign", 2, 0, 1), ("deal", 0), ("item", 2))
        self.assertEqual(found[:4], [[0], [0], [0], [0, 1, 0, 0, 4]])
        self.assertEqual(item_of(found[4])[:3], (0, 0, 1))

    def test_a_deal_without_items(self):
        self.assertEqual(signed("one(A)", ("assign", 0, 0, 2), ("deal", 0)), [[0], [0, 2, 1, 0, 0]])

    def test_no_such_deal(self):
        self.assertEqual(signed(MIXED, ("assign", 0, 1, 2), ("assign", 0, BIG, 2)), [[-2], [-2]])

    def test_no_such_party(self):
        self.assertEqual(signed(MIXED, ("assign", 0, 0, 3), ("assign", 0, 0, BIG), ("deal", 0)), [[-22], [-22], [0, 0, 1, 0, 4]])

    def test_who_is_neither(self):
        self.assertEqual(signed(MIXED, ("assign", 2, 0, 2), ("assign", 3, 0, 2), ("assign", BIG, 0, 2)), [[-1]] * 3)

    def test_to_is_one_of_them(self):
        self.assertEqual(signed(MIXED, *[("assign", who, 0, to) for who in (0, 1) for to in (0, 1)], ("deal", 0)),
                         [[-17]] * 4 + [[0, 0, 1, 0, 4]])

    def test_it_is_over(self):
        self.assertEqual(signed(MIXED, ("cancel", 0, 0), ("cancel", 1, 0), ("assign", 0, 0, 2), ("deal", 0)),
                         [[0], [1], [-16], [1, 0, 1, 0, 0]])

    def test_the_first_refusal_named(self):
        over = (("cancel", 0, 0), ("cancel", 1, 0))
        self.assertEqual(signed(MIXED, *over, ("assign", 2, 1, 3))[2], [-2])
        self.assertEqual(signed(MIXED, *over, ("assign", 2, 0, 3))[2], [-22])
        self.assertEqual(signed(MIXED, *over, ("assign", 2, 0, 0))[2], [-1])
        self.assertEqual(signed(MIXED, *over, ("assign", 1, 0, 0))[2], [-17])
        self.assertEqual(signed(MIXED, *over, ("assign", 1, 0, 2))[2], [-16])

    def test_nobody_wants_it_ended_then(self):
        found = signed(MIXED, ("cancel", 0, 0), ("assign", 1, 0, 2), ("cancel", 2, 0), ("cancel", 0, 0), ("deal", 0))
        self.assertEqual(found, [[0], [0], [0], [1], [1, 0, 2, 0, 0]])
        found = signed(MIXED, ("cancel", 0, 0), ("assign", 0, 0, 2), ("cancel", 1, 0), ("deal", 0), ("cancel", 1, 0))
        self.assertEqual(found, [[0], [0], [0], [0, 2, 1, 0, 4], [-17]])

    def test_refused_they_still_want_it_ended(self):
        found = signed(MIXED, ("cancel", 0, 0), ("assign", 1, 0, 0), ("assign", 1, 0, 3), ("assign", 2, 0, 2), ("cancel", 1, 0))
        self.assertEqual(found, [[0], [-17], [-22], [-1], [1]])


class Cancel(unittest.TestCase):
    def test_by_both(self):
        for first, second in ((0, 1), (1, 0)):
            found = signed(MIXED, ("cancel", first, 0), ("deal", 0), ("items",), ("cancel", second, 0), ("deal", 0), ("items",),
                           ("item", 1), ("day",), ("close",), ("pays",))
            self.assertEqual(found, [[0], [0, 0, 1, 0, 4], [4, 1, 2, 3, 4], [1], [1, 0, 1, 0, 0], [0], [-2], [0, 0, 4, 0], [1],
                                     [0]])

    def test_one_alone_changes_nothing_of_it(self):
        found = signed("at(1,one(A))", ("cancel", 0, 0), ("close",), ("pay", 0), ("cancel", 1, 0), ("pays",), ("deal", 0))
        self.assertEqual(found, [[0], [1], [1, 0, 1, 0, 0, 1], [1], [1], [1, 0, 1, 0, 0]])

    def test_other_deals_are_left_alone(self):
        found = ask(("read", "any(5,one(A))"), ("sign", 0, 1, 0), ("sign", 0, 1, 0), ("sign", 1, 0, 0), ("cancel", 0, 1),
                    ("cancel", 1, 0), ("cancel", 1, 1), ("items",), ("deal", 0), ("deal", 1), ("deal", 2), ("cancel", 0, 2))
        self.assertEqual(found[4:], [[0], [0], [1], [2, 1, 3], [0, 0, 1, 0, 1], [1, 0, 1, 0, 0], [0, 1, 0, 0, 1], [0]])

    def test_who_wants_it_ended_already(self):
        found = signed(MIXED, ("cancel", 1, 0), ("cancel", 1, 0), ("cancel", 1, 0), ("cancel", 0, 0))
        self.assertEqual(found, [[0], [-17], [-17], [1]])

    def test_numbers_are_not_given_again(self):
        found = ask(("read", "any(5,one(A))"), ("sign", 0, 1, 0), ("cancel", 0, 0), ("cancel", 1, 0), ("sign", 0, 1, 0), ("items",))
        self.assertEqual(found[3:], [[1], [1], [1, 2]])

    def test_a_deal_without_items(self):
        self.assertEqual(signed("one(A)", ("cancel", 0, 0), ("cancel", 1, 0), ("deal", 0), ("pays",)),
                         [[0], [1], [1, 0, 1, 0, 0], [1]])

    def test_it_takes_its_place_among_16(self):
        found = ask(("read", "nothing"), *[("sign", 0, 1, 0)] * 16, ("cancel", 0, 3), ("cancel", 1, 3), ("sign", 0, 1, 0))
        self.assertEqual(found[17:], [[0], [1], [-28]])

    def test_no_such_deal(self):
        self.assertEqual(signed(MIXED, ("cancel", 0, 1), ("cancel", 0, BIG)), [[-2], [-2]])

    def test_the_first_refusal_named(self):
        over = (("cancel", 0, 0), ("cancel", 1, 0))
        self.assertEqual(signed(MIXED, *over, ("cancel", 2, 1))[2], [-2])
        self.assertEqual(signed(MIXED, *over, ("cancel", 2, 0), ("cancel", BIG, 0))[2:], [[-1], [-1]])
        self.assertEqual(signed(MIXED, *over, ("cancel", 0, 0), ("cancel", 1, 0))[2:], [[-16], [-16]])


class Refused(unittest.TestCase):
    def test_nothing_is_changed(self):
        told = (("deal", 0), ("deal", 1), ("items",), ("item", 1), ("item", 2), ("day",))
        calls = (("read", "any(5,one(A))"), ("sign", 0, 1, 0), ("sign", 1, 2, 0), ("cancel", 0, 0), ("see", 0, 1), ("undo",))
        found = ask(*calls, *told, ("assign", 0, 2, 2), ("assign", 0, 0, 3), ("assign", 2, 0, 2), ("assign", 0, 0, 1),
                    ("cancel", 0, 2), ("cancel", 2, 0), ("cancel", 0, 0), *told, ("redo",))
        self.assertEqual(found[12:19], [[-2], [-22], [-1], [-17], [-2], [-1], [-17]])
        self.assertEqual(found[6:12], found[19:25])
        self.assertEqual((found[11], found[25]), ([0, 0, 4, 1], [0]))


if __name__ == "__main__":
    unittest.main()
