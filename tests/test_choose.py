"""Point 8: choose, take."""

import unittest

from tests.helper import ask, item_of, last
from tests.test_deals import FORTY
from tests.test_texts import deep

LARGE = "times(mul(1000000,2000000),one(A))"


def signed(text, *more):
    """What calls behind a signing by 0 as holder and 1 as the other side answer."""
    return ask(("read", text), ("sign", 0, 1, 0), *more)[2:]


class Choose(unittest.TestCase):
    def test_the_first_or_the_second(self):
        for which, unit in ((0, 0), (1, 1)):
            found = signed("or(one(A),one(B))", ("choose", 0, 1, which), ("items",), ("pays",), ("pay", 0))
            self.assertEqual(found, [[0], [0], [1], [0, 0, 1, 0, unit, 1]])

    def test_it_is_had_as_often_as_the_or(self):
        found = signed("times(-3,or(one(A),times(4,one(B))))", ("choose", 0, 1, 1), ("pay", 0))
        self.assertEqual(found, [[0], [0, 0, 0, 1, 1, 12]])

    def test_what_stays_has_a_new_number(self):
        found = signed("both(any(3,one(A)),both(or(or(one(A),one(B)),at(4,one(C))),any(5,one(A))))",
                       ("items",), ("choose", 0, 2, 0), ("items",), ("item", 4), ("choose", 0, 2, 0), ("choose", 0, 4, 1),
                       ("items",), ("pay", 0))
        self.assertEqual(found[:3], [[3, 1, 2, 3], [0], [3, 1, 3, 4]])
        self.assertEqual(item_of(found[3]), (0, 0, 1, 1, "or(one(A),one(B))"))
        self.assertEqual(found[4:], [[-2], [0], [2, 1, 3], [0, 0, 1, 0, 1, 1]])

    def test_worked_out_at_once_in_order(self):
        found = signed("or(nothing,both(any(1,one(A)),both(one(B),both(at(0,one(C)),times(a,one(D))))))",
                       ("choose", 0, 1, 1), ("items",), ("pays",), ("pay", 0), ("pay", 1), ("item", 3))
        self.assertEqual(found[:5], [[0], [2, 2, 3], [2], [0, 0, 1, 0, 1, 1], [0, 0, 1, 0, 2, 1]])
        self.assertEqual(item_of(found[5]), (0, 0, 1, 1, "times(a,one(D))"))

    def test_by_what_is_seen_today(self):
        found = signed("or(times(a,one(A)),one(B))", ("see", 0, 7), ("choose", 0, 1, 0), ("pay", 0))
        self.assertEqual(found, [[0], [0], [0, 0, 1, 0, 0, 7]])

    def test_on_a_later_day(self):
        found = signed("at(2,or(at(1,one(A)),at(2,one(B))))", ("close",), ("choose", 0, 1, 1), ("close",), ("items",),
                       ("choose", 0, 2, 1), ("pay", 0))
        self.assertEqual(found, [[1], [-16], [2], [1, 2], [0], [2, 0, 1, 0, 1, 1]])
        found = signed("at(2,or(at(1,one(A)),at(2,one(B))))", ("close",), ("close",), ("choose", 0, 2, 0), ("items",), ("pays",))
        self.assertEqual(found, [[1], [2], [0], [0], [0]])

    def test_who_chooses_is_whose_it_is(self):
        for text, holder in (("or(one(A),one(B))", 0), ("turn(or(one(A),one(B)))", 1),
                             ("times(-5,or(one(A),one(B)))", 0), ("turn(turn(or(one(A),one(B))))", 0)):
            for who in (0, 1, 2, 3, 4294967295):
                found = signed(text, ("choose", who, 1, 0), ("items",))
                self.assertEqual(found, [[0], [0]] if who == holder else [[-1], [1, 1]])

    def test_it_is_no_or(self):
        for text in ("any(3,one(A))", "at(3,or(one(A),one(B)))", "times(a,or(one(A),one(B)))",
                     "if(le(a,0),one(A),one(B))", "when(3,le(a,0),or(one(A),one(B)))"):
            self.assertEqual(signed(text, ("choose", 0, 1, 0), ("items",)), [[-16], [1, 1]])

    def test_no_such_one(self):
        found = signed("or(one(A),one(B))", ("choose", 0, 0, 0), ("choose", 0, 2, 0), ("choose", 0, 4294967295, 0),
                       ("choose", 0, 1, 0), ("choose", 0, 1, 0))
        self.assertEqual(found, [[-2], [-2], [-2], [0], [-2]])

    def test_which_is_0_or_1(self):
        for which in (2, 3, 4294967295):
            self.assertEqual(signed("or(one(A),one(B))", ("choose", 0, 1, which), ("items",)), [[-22], [1, 1]])

    def test_the_first_refusal_named(self):
        large = f"both(any(9,one(A)),or({LARGE},{LARGE}))"
        self.assertEqual(signed(large, ("choose", 2, 3, 2)), [[-2]])
        self.assertEqual(signed(large, ("choose", 2, 1, 2)), [[-16]])
        self.assertEqual(signed(large, ("choose", 2, 2, 2)), [[-1]])
        self.assertEqual(signed(large, ("choose", 0, 2, 2)), [[-22]])
        self.assertEqual(signed(large, ("choose", 0, 2, 1)), [[-75]])

    def test_10_to_the_12_times(self):
        text = "times(1000000,or(times(-1000000,one(A)),times(1000001,nothing)))"
        self.assertEqual(signed(text, ("choose", 0, 1, 0), ("pay", 0)), [[0], [0, 0, 0, 1, 0, 10 ** 12]])
        self.assertEqual(signed(text, ("choose", 0, 1, 1), ("items",), ("choose", 0, 1, 0)), [[-75], [1, 1], [0]])

    def test_48_items_and_one_more(self):
        many = deep("both(any(0,nothing),", "any(0,nothing)", ")", 22 * 21 + 14)
        two = "both(any(0,nothing),any(0,nothing))"
        found = ask(("read", many), ("read", f"or({two},both({two},any(0,nothing)))"), ("sign", 0, 1, 0), ("sign", 0, 1, 0),
                    ("sign", 0, 1, 1), ("items",), ("choose", 0, 47, 1), ("items",), ("choose", 0, 47, 0), ("items",))
        full = list(range(1, 47))
        self.assertEqual(found[5:], [[47] + full + [47], [-75], [47] + full + [47], [0], [48] + full + [48, 49]])

    def test_400_payments_and_one_more(self):
        text = FORTY[:-len("one(B)") - 39] + "or(one(C),both(one(C),one(D)))" + ")" * 39
        found = ask(("read", FORTY), ("read", text), *[("sign", 0, 1, 0)] * 9, ("sign", 0, 1, 1), ("pays",),
                    ("choose", 0, 1, 1), ("pays",), ("items",), ("choose", 0, 1, 0), ("pays",), ("pay", 399), ("pay", 400))
        self.assertEqual(found[12:], [[399], [-75], [399], [1, 1], [0], [400], [0, 9, 1, 0, 2, 1], [-2]])

    def test_other_items_are_left_alone(self):
        found = signed("both(or(one(A),one(B)),both(times(b,one(C)),or(one(C),one(D))))", ("choose", 0, 1, 0), ("items",))
        self.assertEqual(found, [[0], [2, 2, 3]])


class Take(unittest.TestCase):
    def test_it_is_had_on_the_day_it_is_taken(self):
        found = signed("any(2,one(C))", ("close",), ("take", 0, 1), ("items",), ("pays",), ("pay", 0))
        self.assertEqual(found, [[1], [0], [0], [1], [1, 0, 1, 0, 2, 1]])

    def test_up_to_its_day(self):
        for days, answer in ((0, [0]), (1, [0]), (2, [0]), (3, [-2])):
            self.assertEqual(signed("any(2,one(C))", *[("close",)] * days, ("take", 0, 1))[-1], answer)

    def test_if_it_is_not_taken_nothing_comes_of_it(self):
        self.assertEqual(signed("any(0,one(C))", ("close",), ("items",), ("pays",)), [[1], [0], [0]])

    def test_who_takes_is_whose_it_is(self):
        for text, holder in (("any(3,one(A))", 0), ("turn(any(3,one(A)))", 1), ("times(-5,any(3,one(A)))", 0)):
            for who in (0, 1, 2, 3, 4294967295):
                found = signed(text, ("take", who, 1), ("items",))
                self.assertEqual(found, [[0], [0]] if who == holder else [[-1], [1, 1]])

    def test_what_stays_has_a_new_number(self):
        found = signed("both(any(3,any(2,turn(times(b,one(A))))),any(5,one(B)))", ("take", 0, 1), ("items",), ("item", 3),
                       ("take", 0, 3), ("item", 4), ("see", 1, 6), ("pay", 0))
        self.assertEqual(found[:2], [[0], [2, 2, 3]])
        self.assertEqual(item_of(found[2]), (0, 0, 1, 1, "any(2,turn(times(b,one(A))))"))
        self.assertEqual(item_of(found[4]), (0, 1, 0, 1, "times(b,one(A))"))
        self.assertEqual((found[3], found[5:]), ([0], [[0], [0, 0, 0, 1, 0, 6]]))

    def test_a_day_within_it_that_has_gone_by(self):
        found = signed("any(3,at(1,one(A)))", ("close",), ("close",), ("take", 0, 1), ("items",), ("pays",))
        self.assertEqual(found[2:], [[0], [0], [0]])

    def test_had_0_times(self):
        self.assertEqual(signed("times(0,any(3,one(A)))", ("take", 0, 1), ("items",), ("pays",)), [[0], [0], [0]])

    def test_it_is_no_any(self):
        for text in ("or(any(3,one(A)),any(3,one(A)))", "at(3,any(4,one(A)))", "times(a,any(3,one(A)))",
                     "if(le(a,0),one(A),one(B))", "when(3,le(a,0),any(4,one(A)))"):
            self.assertEqual(signed(text, ("take", 0, 1), ("items",)), [[-16], [1, 1]])

    def test_no_such_one(self):
        found = signed("any(3,one(A))", ("take", 0, 0), ("take", 0, 2), ("take", 0, 4294967295), ("take", 0, 1), ("take", 0, 1))
        self.assertEqual(found, [[-2], [-2], [-2], [0], [-2]])

    def test_the_first_refusal_named(self):
        large = f"both(or(one(A),one(B)),any(9,{LARGE}))"
        self.assertEqual(signed(large, ("take", 2, 3)), [[-2]])
        self.assertEqual(signed(large, ("take", 2, 1)), [[-16]])
        self.assertEqual(signed(large, ("take", 2, 2)), [[-1]])
        self.assertEqual(signed(large, ("take", 0, 2), ("items",)), [[-75], [2, 1, 2]])

    def test_10_to_the_12_times(self):
        for times, answer in ((1000000, 0), (-1000000, 0), (1000001, -75), (-1000001, -75)):
            text = f"times(1000000,any(9,times({times},one(A))))"
            self.assertEqual(signed(text, ("take", 0, 1), ("items",))[0], [answer])

    def test_48_items_and_one_more(self):
        many = deep("both(any(0,nothing),", "any(0,nothing)", ")", 22 * 21 + 14)
        three = "any(9,both(any(0,nothing),both(any(0,nothing),any(0,nothing))))"
        found = ask(("read", many), ("read", three), ("sign", 0, 1, 0), ("sign", 0, 1, 0), ("sign", 0, 1, 1), ("take", 0, 47),
                    ("items",), ("take", 0, 1), ("take", 0, 47), ("items",))
        self.assertEqual(found[5:], [[-75], [47] + list(range(1, 48)), [0], [0], [48] + list(range(2, 47)) + [48, 49, 50]])

    def test_400_payments_and_one_more(self):
        text = FORTY[:-len("one(B)") - 39] + "any(0,one(C))" + ")" * 39
        calls = (("read", FORTY), ("read", text), ("read", "any(0,one(D))"), *[("sign", 0, 1, 0)] * 9, ("sign", 0, 1, 1),
                 ("sign", 1, 0, 2), ("pays",))
        self.assertEqual(ask(*calls, ("take", 0, 1), ("pays",), ("take", 1, 2), ("pays",), ("items",))[14:],
                         [[399], [0], [400], [-75], [400], [1, 2]])


class Refused(unittest.TestCase):
    def test_nothing_is_changed(self):
        text = f"both(or({LARGE},one(A)),any(9,{LARGE}))"
        calls = (("see", 0, 5), ("undo",))
        told = (("items",), ("item", 1), ("item", 2), ("pays",), ("deal", 0), ("day",))
        found = signed(text, *calls, *told, ("choose", 0, 1, 0), ("choose", 1, 1, 0), ("choose", 0, 1, 2), ("choose", 0, 2, 0),
                       ("choose", 0, 3, 0), ("take", 0, 2), ("take", 1, 2), ("take", 0, 1), ("take", 0, 3), *told, ("redo",))
        self.assertEqual(found[8:17], [[-75], [-1], [-22], [-16], [-2], [-75], [-1], [-16], [-2]])
        self.assertEqual(found[2:8], found[17:23])
        self.assertEqual(found[7], [0, 0, 2, 1])
        self.assertEqual(found[23], [0])

    def test_numbers_are_not_used_up(self):
        text = f"both(or(both(any(9,one(A)),{LARGE}),any(8,one(A))),any(7,one(A)))"
        found = signed(text, ("choose", 0, 1, 0), ("choose", 0, 1, 1), ("items",), ("pays",))
        self.assertEqual(found, [[-75], [0], [2, 2, 3], [0]])
        self.assertEqual(last(("read", text), ("sign", 0, 1, 0), ("choose", 0, 1, 0), ("items",)), [2, 1, 2])


if __name__ == "__main__":
    unittest.main()
