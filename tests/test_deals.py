"""Point 5: sign, deal."""

import unittest

from tests.helper import ask, item_of, last
from tests.test_texts import deep

# So many items, and so many payments, come of one deal of these.
TWENTY_FOUR = deep("both(any(0,nothing),", "any(0,nothing)", ")", 23 * 21 + 14)
FORTY = deep("both(one(A),", "one(B)", ")", 39 * 13 + 6)
WIDE = "or(one(A),one(B))"


class Sign(unittest.TestCase):
    def test_numbered_from_0(self):
        found = ask(("read", WIDE), ("sign", 0, 1, 0), ("sign", 2, 0, 0), ("deal", 0), ("deal", 1), ("deal", 2))
        self.assertEqual(found[1:], [[0], [1], [0, 0, 1, 0, 1], [0, 2, 0, 0, 1], [-2]])

    def test_its_holder_has_it(self):
        found = ask(("read", WIDE), ("sign", 2, 1, 0), ("item", 1))
        self.assertEqual(item_of(found[2]), (0, 2, 1, 1, WIDE))

    def test_a_party_is_not_there_or_they_are_the_same(self):
        for holder, other in ((3, 0), (0, 3), (4294967295, 0), (0, 4294967295), (0, 0), (2, 2), (3, 3)):
            found = ask(("read", WIDE), ("sign", holder, other, 0), ("deal", 0), ("items",))
            self.assertEqual(found[1:], [[-22], [-2], [0]])

    def test_16_deals_and_a_17th(self):
        found = ask(("read", "nothing"), *[("sign", 0, 1, 0)] * 17, ("deal", 15), ("deal", 16))
        self.assertEqual(found[1:], [[number] for number in range(16)] + [[-28], [0, 0, 1, 0, 0], [-2]])

    def test_48_items_and_one_more(self):
        found = ask(
            ("read", TWENTY_FOUR), ("read", "any(0,nothing)"), ("read", "one(A)"),
            ("sign", 0, 1, 0), ("sign", 0, 1, 0), ("items",), ("sign", 0, 1, 1), ("items",), ("deal", 2),
            ("sign", 0, 1, 2), ("deal", 1), ("item", 49),
        )
        full = [48] + list(range(1, 49))
        self.assertEqual(found[3:], [[0], [1], full, [-75], full, [-2], [2], [0, 0, 1, 0, 24], [-2]])

    def test_numbers_are_not_used_up_by_what_is_refused(self):
        found = ask(
            ("read", TWENTY_FOUR), ("read", "any(0,nothing)"), ("sign", 0, 1, 0), ("sign", 0, 1, 1), ("sign", 0, 1, 0),
            ("sign", 0, 1, 1), ("items",),
        )
        self.assertEqual(found[2:], [[0], [1], [-75], [2], [26] + list(range(1, 27))])

    def test_400_payments_and_one_more(self):
        found = ask(
            ("read", FORTY), ("read", "times(0,one(A))"), ("read", "one(A)"), ("read", "any(0,one(A))"),
            *[("sign", 0, 1, 0)] * 10, ("sign", 0, 1, 2), ("sign", 0, 1, 0), ("sign", 0, 1, 1), ("sign", 0, 1, 3),
            ("deal", 11), ("items",),
        )
        self.assertEqual(found[4:14], [[number] for number in range(10)])
        self.assertEqual(found[14:], [[-75], [-75], [10], [11], [0, 0, 1, 0, 1], [1, 1]])

    def test_399_payments_and_one_more(self):
        shorter = FORTY.replace("both(one(A),", "", 1)[:-1]
        found = ask(("read", FORTY), ("read", shorter), ("read", "one(A)"), *[("sign", 0, 1, 0)] * 9, ("sign", 0, 1, 1),
                    ("sign", 0, 1, 2), ("sign", 0, 1, 2))
        self.assertEqual(found[-3:], [[9], [10], [-75]])

    def test_10_to_the_12_times(self):
        for text, answer in (
            ("times(1000000,times(1000000,one(A)))", 0),
            ("times(-1000000,times(1000000,one(A)))", 0),
            ("times(1000000,times(1000000,turn(nothing)))", 0),
            ("times(add(1,mul(1000000,1000000)),one(A))", -75),
            ("times(sub(-1,mul(1000000,1000000)),one(A))", -75),
            ("times(add(1,mul(1000000,1000000)),nothing)", -75),
            ("times(1000000,times(1000000,times(2,nothing)))", -75),
            ("times(mul(1000000,2000000),times(0,one(A)))", -75),
            ("times(sub(mul(1000000,2000000),mul(1000000,1000000)),any(3,one(A)))", 0),
            ("if(le(1,0),times(mul(1000000,2000000),one(A)),nothing)", 0),
            ("at(1,times(mul(1000000,2000000),one(A)))", 0),
        ):
            with self.subTest(text=text):
                self.assertEqual(ask(("read", text), ("sign", 0, 1, 0), ("deal", 0))[1:2], [[answer]])

    def test_too_much_changes_nothing(self):
        found = ask(
            ("read", "both(or(one(A),one(B)),both(one(C),times(mul(1000000,2000000),one(A))))"), ("read", WIDE),
            ("sign", 0, 1, 0), ("items",), ("deal", 0), ("sign", 1, 2, 1), ("items",), ("deal", 0),
        )
        self.assertEqual(found[2:], [[-75], [0], [-2], [0], [1, 1], [0, 1, 2, 0, 1]])

    def test_the_first_refusal_named(self):
        large = ("read", "times(mul(1000000,2000000),one(A))")
        full = (large, ("read", "nothing"), *[("sign", 0, 1, 1)] * 16)
        self.assertEqual(last(*full, ("sign", 3, 3, 2)), [-2])
        self.assertEqual(last(*full, ("sign", 3, 0, 0)), [-22])
        self.assertEqual(last(*full, ("sign", 1, 1, 0)), [-22])
        self.assertEqual(last(*full, ("sign", 0, 1, 0)), [-28])
        self.assertEqual(last(large, ("sign", 0, 1, 0)), [-75])

    def test_what_is_signed_does_not_change_with_the_shelf(self):
        found = ask(("read", WIDE), ("sign", 0, 1, 0), ("tidy", 0), ("make", 2, 0, 0, 0), ("item", 1))
        self.assertEqual(item_of(found[4]), (0, 0, 1, 1, WIDE))


class TheDeal(unittest.TestCase):
    def test_how_many_items_of_it_pend(self):
        found = ask(
            ("read", "both(any(3,one(A)),both(or(one(A),one(B)),times(a,one(A))))"), ("read", "nothing"),
            ("read", "times(a,both(any(0,nothing),any(1,nothing)))"),
            ("sign", 0, 1, 0), ("sign", 1, 2, 1), ("sign", 2, 0, 2), ("deal", 0), ("deal", 1), ("deal", 2), ("see", 0, 1),
            ("deal", 0), ("deal", 1), ("deal", 2),
        )
        self.assertEqual(found[6:9], [[0, 0, 1, 0, 3], [0, 1, 2, 0, 0], [0, 2, 0, 0, 1]])
        self.assertEqual(found[10:], [[0, 0, 1, 0, 2], [0, 1, 2, 0, 0], [0, 2, 0, 0, 2]])

    def test_turned_about_it_has_the_sides_that_signed(self):
        found = ask(("read", "turn(any(3,one(A)))"), ("sign", 0, 1, 0), ("deal", 0), ("item", 1))
        self.assertEqual(found[2], [0, 0, 1, 0, 1])
        self.assertEqual(item_of(found[3]), (0, 1, 0, 1, "any(3,one(A))"))

    def test_the_day_when_it_was_signed(self):
        found = ask(("read", "any(9,one(A))"), ("sign", 2, 1, 0), ("close",), ("close",), ("sign", 1, 0, 0), ("close",),
                    ("deal", 0), ("deal", 1))
        self.assertEqual(found[6:], [[0, 2, 1, 0, 1], [0, 1, 0, 2, 1]])

    def test_over_once_both_ended_it(self):
        found = ask(("read", "any(9,one(A))"), ("close",), ("sign", 2, 1, 0), ("sign", 1, 0, 0), ("cancel", 1, 0), ("deal", 0),
                    ("cancel", 2, 0), ("deal", 0), ("deal", 1))
        self.assertEqual(found[4:], [[0], [0, 2, 1, 1, 1], [1], [1, 2, 1, 1, 0], [0, 1, 0, 1, 1]])

    def test_not_over_when_no_item_of_it_is_left(self):
        found = ask(("read", "any(0,one(A))"), ("sign", 2, 1, 0), ("close",), ("deal", 0))
        self.assertEqual(found[3], [0, 2, 1, 0, 0])

    def test_no_such_one(self):
        self.assertEqual(ask(("deal", 0), ("deal", 4294967295)), [[-2], [-2]])


if __name__ == "__main__":
    unittest.main()
