"""Point 9: close, day."""

import unittest

from tests.helper import ask, item_of
from tests.test_choose import LARGE, signed
from tests.test_deals import FORTY
from tests.test_texts import deep

TWENTY_THREE = deep("both(any(9,nothing),", "any(9,nothing)", ")", 22 * 21 + 14)
TWO = "both(any(9,nothing),any(9,nothing))"


class Close(unittest.TestCase):
    def test_the_next_days_number(self):
        found = ask(("close",), ("day",), ("close",), ("close",), ("day",))
        self.assertEqual(found, [[1], [1, 0, 1, 0], [2], [3], [3, 0, 3, 0]])

    def test_day_1000_and_the_close_before_it(self):
        found = ask(*[("close",)] * 999, ("day",), ("close",), ("day",), ("close",), ("close",), ("day",))
        self.assertEqual(found[:999], [[day] for day in range(1, 1000)])
        self.assertEqual(found[999:], [[999, 0, 32, 0], [1000], [1000, 0, 32, 0], [-28], [-28], [1000, 0, 32, 0]])

    def test_day_1000_is_like_another(self):
        text = "both(at(1000,one(A)),both(any(1000,one(B)),when(1000,le(a,0),or(one(C),one(D)))))"
        calls = []
        for day in range(1000):
            calls += [("see", 0, 1), ("close",)]
        found = signed(text, *calls, ("items",), ("pay", 0), ("take", 0, 2), ("see", 0, 0), ("items",), ("choose", 0, 4, 1),
                       ("pays",), ("pay", 1), ("pay", 2), ("close",))
        self.assertEqual(found[1999:], [
            [1000], [2, 2, 3], [1000, 0, 1, 0, 0, 1], [0], [0], [1, 4], [0], [3], [1000, 0, 1, 0, 1, 1],
            [1000, 0, 1, 0, 3, 1], [-28]])

    def test_nothing_is_seen_on_the_next_day(self):
        found = ask(("see", 0, 5), ("see", 3, 5), ("close",), ("see", 0, 6), ("see", 3, 7), ("see", 0, 6))
        self.assertEqual(found, [[0], [0], [1], [0], [0], [-17]])

    def test_yesterdays_value_does_not_count(self):
        found = signed("at(1,times(a,one(A)))", ("see", 0, 5), ("close",), ("items",), ("pays",), ("see", 0, 3), ("pay", 0))
        self.assertEqual(found, [[0], [1], [1, 2], [0], [0], [1, 0, 1, 0, 0, 3]])

    def test_what_falls_due_on_the_next_day(self):
        found = signed("both(at(1,both(one(A),any(5,one(B)))),both(at(2,one(C)),at(1,turn(one(D)))))", ("close",), ("items",),
                       ("pays",), ("pay", 0), ("pay", 1), ("item", 4), ("close",), ("pay", 2), ("items",))
        self.assertEqual(found[:5], [[1], [2, 2, 4], [2], [1, 0, 1, 0, 0, 1], [1, 0, 0, 1, 3, 1]])
        self.assertEqual(item_of(found[5]), (0, 0, 1, 1, "any(5,one(B))"))
        self.assertEqual(found[6:], [[2], [2, 0, 1, 0, 2, 1], [1, 4]])

    def test_a_day_within_a_day(self):
        found = signed("at(1,both(at(1,one(A)),both(at(0,one(B)),at(2,one(C)))))", ("close",), ("pays",), ("items",),
                       ("close",), ("pays",), ("pay", 1))
        self.assertEqual(found, [[1], [1], [1, 2], [2], [2], [2, 0, 1, 0, 2, 1]])

    def test_an_any_whose_day_goes_by(self):
        found = signed("both(any(0,one(A)),any(1,one(B)))", ("close",), ("items",), ("close",), ("items",), ("pays",))
        self.assertEqual(found, [[1], [1, 2], [2], [0], [0]])

    def test_a_when_whose_day_goes_by(self):
        text = "when(1,le(a,0),one(A))"
        found = signed(text, ("see", 0, 1), ("close",), ("items",), ("see", 0, 1), ("items",), ("close",), ("items",),
                       ("see", 0, 0), ("pays",))
        self.assertEqual(found, [[0], [1], [1, 1], [0], [1, 1], [2], [0], [0], [0]])
        found = signed(text, ("see", 0, 1), ("close",), ("see", 0, 0), ("items",), ("pay", 0))
        self.assertEqual(found[2:], [[0], [0], [1, 0, 1, 0, 0, 1]])

    def test_a_when_of_numbers_alone(self):
        found = signed("when(1,lt(0,0),one(A))", ("close",), ("items",), ("close",), ("items",), ("pays",))
        self.assertEqual(found, [[1], [1, 1], [2], [0], [0]])

    def test_a_when_within_what_falls_due(self):
        found = signed("at(1,both(when(1,le(0,0),one(A)),both(when(0,le(0,0),one(B)),when(1,le(a,0),one(C)))))", ("close",),
                       ("pays",), ("items",), ("close",), ("see", 0, 0), ("pay", 1), ("close",))
        self.assertEqual(found, [[1], [1], [1, 2], [-61], [0], [1, 0, 1, 0, 2, 1], [2]])


class Ors(unittest.TestCase):
    def test_it_is_its_first_one_on_the_day_that_ends(self):
        found = signed("or(one(A),one(B))", ("close",), ("items",), ("pays",), ("pay", 0))
        self.assertEqual(found, [[1], [0], [1], [0, 0, 1, 0, 0, 1]])

    def test_the_first_one_has_a_new_number(self):
        found = signed("both(or(any(3,one(A)),one(B)),any(4,one(C)))", ("close",), ("items",), ("item", 3))
        self.assertEqual(found[:2], [[1], [2, 2, 3]])
        self.assertEqual(item_of(found[2]), (0, 0, 1, 1, "any(3,one(A))"))

    def test_ors_within_ors(self):
        found = signed("or(or(or(one(A),one(B)),one(C)),one(D))", ("close",), ("items",), ("pays",), ("pay", 0))
        self.assertEqual(found, [[1], [0], [1], [0, 0, 1, 0, 0, 1]])

    def test_ors_within_ors_take_numbers_round_by_round(self):
        found = signed("both(or(or(any(1,one(A)),one(B)),one(B)),or(any(2,one(A)),one(B)))", ("close",), ("items",),
                       ("item", 4), ("item", 5))
        self.assertEqual(found[:2], [[1], [2, 4, 5]])
        self.assertEqual(item_of(found[2]), (0, 0, 1, 1, "any(2,one(A))"))
        self.assertEqual(item_of(found[3]), (0, 0, 1, 1, "any(1,one(A))"))

    def test_ors_within_ors_pay_round_by_round(self):
        found = signed("both(or(both(or(one(A),nothing),one(B)),nothing),or(one(C),nothing))", ("close",), ("pays",),
                       ("pay", 0), ("pay", 1), ("pay", 2))
        self.assertEqual([pay[4] for pay in found[2:]], [1, 2, 0])

    def test_ors_that_come_of_what_is_seen(self):
        found = signed("or(times(a,or(one(A),one(B))),one(C))", ("see", 0, 4), ("close",), ("pays",), ("pay", 0))
        self.assertEqual(found, [[0], [1], [1], [0, 0, 1, 0, 0, 4]])

    def test_ors_of_the_next_day_stay_till_its_end(self):
        found = signed("at(1,or(one(A),one(B)))", ("close",), ("items",), ("pays",), ("close",), ("items",), ("pay", 0))
        self.assertEqual(found, [[1], [1, 2], [0], [2], [0], [1, 0, 1, 0, 0, 1]])

    def test_the_first_one_is_due_on_the_next_day(self):
        found = signed("or(at(1,one(A)),one(B))", ("close",), ("items",), ("pay", 0), ("pays",))
        self.assertEqual(found, [[1], [0], [1, 0, 1, 0, 0, 1], [1]])
        found = signed("or(any(0,one(A)),one(B))", ("close",), ("items",), ("pays",))
        self.assertEqual(found, [[1], [0], [0]])

    def test_turned_and_of_several_deals(self):
        found = ask(("read", "turn(or(times(2,one(A)),one(B)))"), ("read", "or(one(C),one(D))"), ("sign", 0, 1, 0),
                    ("sign", 2, 0, 1), ("close",), ("pays",), ("pay", 0), ("pay", 1))
        self.assertEqual(found[4:], [[1], [2], [0, 0, 0, 1, 0, 2], [0, 1, 0, 2, 2, 1]])

    def test_as_deep_as_600_bytes_allow(self):
        text = deep("or(", "one(D)", ",nothing)", 600)
        self.assertEqual(signed(text, ("close",), ("items",), ("pays",), ("pay", 0)), [[1], [0], [1], [0, 0, 1, 0, 3, 1]])


class Waited(unittest.TestCase):
    def test_a_value_that_is_not_seen_and_is_waited_for(self):
        for text in ("times(a,one(A))", "if(le(a,0),one(A),one(B))", "when(5,le(a,0),one(A))", "when(0,le(a,0),one(A))",
                     "times(a,nothing)", "times(0,times(a,nothing))", "or(times(a,one(A)),one(B))",
                     "or(or(times(add(a,b),one(A)),nothing),one(B))", "both(any(3,one(A)),turn(times(a,one(A))))"):
            found = signed(text, ("see", 1, 4), ("close",), ("day",), ("see", 0, 9), ("close",))
            with self.subTest(text=text):
                self.assertEqual(found[:2] + found[3:], [[0], [-61], [0], [1]])
                self.assertEqual((found[2][0], found[2][2:]), (0, [3, 0]))

    def test_what_is_not_waited_for_yet(self):
        for text in ("at(5,times(a,one(A)))", "any(5,times(a,one(A)))", "or(one(B),times(a,one(A)))", "at(1,times(a,one(A)))",
                     "if(le(0,1),nothing,times(a,one(A)))", "when(5,lt(0,0),times(a,one(A)))"):
            self.assertEqual(signed(text, ("close",)), [[1]])

    def test_a_when_that_was_looked_at_does_not_wait(self):
        self.assertEqual(signed("when(5,le(a,0),one(A))", ("see", 0, 1), ("close",), ("close",)), [[0], [1], [-61]])

    def test_refused_it_is_as_before(self):
        text = "both(or(one(A),one(B)),both(times(a,one(C)),or(any(3,one(A)),one(B))))"
        told = (("items",), ("pays",), ("day",), ("deal", 0), ("balance", 0))
        found = signed(text, ("see", 1, 1), ("undo",), *told, ("close",), *told, ("redo",), ("choose", 0, 1, 1), ("pay", 0))
        self.assertEqual(found[7], [-61])
        self.assertEqual(found[2:7], found[8:13])
        self.assertEqual(found[2:5], [[3, 1, 2, 3], [0], [0, 1, 2, 1]])
        self.assertEqual(found[13:], [[0], [0], [0, 0, 1, 0, 1, 1]])


class TooMuch(unittest.TestCase):
    def test_before_the_turn(self):
        found = signed(f"or({LARGE},one(A))", ("close",), ("day",), ("items",), ("choose", 0, 1, 1), ("close",))
        self.assertEqual(found, [[-75], [0, 0, 2, 0], [1, 1], [0], [1]])

    def test_behind_the_turn(self):
        found = signed(f"both(or(one(B),one(C)),at(1,{LARGE}))", ("close",), ("day",), ("items",), ("pays",))
        self.assertEqual(found, [[-75], [0, 0, 2, 0], [2, 1, 2], [0]])

    def test_10_to_the_12_times(self):
        for times, answer in ((1000000, [1]), (-1000000, [1]), (1000001, [-75]), (-1000001, [-75])):
            for text in (f"times(1000000,or(times({times},one(A)),nothing))", f"times(1000000,at(1,times({times},one(A))))"):
                self.assertEqual(signed(text, ("close",)), [answer])

    def test_48_items_and_one_more_before_the_turn(self):
        for first, answer in ((TWO, [1]), (f"both({TWO},any(9,nothing))", [-75])):
            found = ask(("read", TWENTY_THREE), ("read", f"or({first},nothing)"), ("sign", 0, 1, 0), ("sign", 0, 1, 0),
                        ("sign", 0, 1, 1), ("close",), ("items",))
            self.assertEqual(found[5], answer)
            full = list(range(1, 47))
            self.assertEqual(found[6], [48] + full + [48, 49] if answer == [1] else [47] + full + [47])

    def test_49_items_for_one_round_are_too_much(self):
        # The ors of the first round would make room again in the second one.
        text = "or(both(or(nothing,one(A)),both(or(nothing,one(A)),or(nothing,one(A)))),nothing)"
        calls = (("read", TWENTY_THREE), ("read", text), ("sign", 0, 1, 0), ("sign", 0, 1, 0), ("sign", 0, 1, 1))
        self.assertEqual(ask(*calls, ("close",), ("items",))[5:], [[-75], [47] + list(range(1, 48))])
        self.assertEqual(ask(*calls, ("take", 0, 1), ("close",), ("items",))[5:], [[0], [1], [45] + list(range(2, 47))])

    def test_48_items_and_one_more_behind_the_turn(self):
        for due, answer in ((TWO, [1]), (f"both({TWO},any(9,nothing))", [-75])):
            found = ask(("read", TWENTY_THREE), ("read", f"at(1,{due})"), ("sign", 0, 1, 0), ("sign", 0, 1, 0),
                        ("sign", 0, 1, 1), ("close",), ("items",), ("day",))
            self.assertEqual(found[5], answer)
            full = list(range(1, 47))
            self.assertEqual(found[6], [48] + full + [48, 49] if answer == [1] else [47] + full + [47])
            self.assertEqual(found[7][0], 1 if answer == [1] else 0)

    def test_what_goes_by_makes_room_behind_the_turn(self):
        gone = deep("both(any(0,nothing),", "any(0,nothing)", ")", 22 * 21 + 14)
        found = ask(("read", gone), ("read", f"at(1,{TWENTY_THREE})"), ("sign", 0, 1, 0), ("sign", 0, 1, 0),
                    ("sign", 0, 1, 1), ("sign", 0, 1, 1), ("close",), ("items",))
        self.assertEqual(found[6:], [[1], [46] + list(range(49, 95))])

    def test_400_payments_and_one_more(self):
        head, tail = FORTY[:-len("one(B)") - 39], ")" * 39
        for last, answer in (("or(one(C),one(D))", [1]), ("or(both(one(C),one(C)),one(D))", [-75]), ("at(1,one(C))", [1]),
                             ("at(1,both(one(C),one(D)))", [-75])):
            found = ask(("read", FORTY), ("read", head + last + tail), *[("sign", 0, 1, 0)] * 9, ("sign", 0, 1, 1), ("pays",),
                        ("close",), ("pays",), ("day",))
            self.assertEqual(found[12:14], [[399], answer])
            self.assertEqual((found[14], found[15][0]), (([400], 1) if answer == [1] else ([399], 0)))

    def test_it_comes_ahead_of_what_is_waited_for(self):
        self.assertEqual(signed(f"both(or({LARGE},one(A)),times(a,one(B)))", ("close",)), [[-75]])
        self.assertEqual(signed(f"both(at(1,{LARGE}),times(a,one(B)))", ("close",)), [[-61]])
        self.assertEqual(signed(f"both(at(1,{LARGE}),times(a,one(B)))", ("see", 0, 0), ("close",)), [[0], [-75]])

    def test_day_1000_comes_first(self):
        calls = [("read", f"or({LARGE},nothing)"), ("read", "times(a,one(A))")] + [("close",)] * 1000
        self.assertEqual(ask(*calls, ("sign", 0, 1, 0), ("close",))[-1], [-28])
        self.assertEqual(ask(*calls, ("sign", 0, 1, 1), ("close",))[-1], [-28])

    def test_refused_nothing_is_changed(self):
        told = (("items",), ("item", 1), ("item", 2), ("item", 3), ("pays",), ("day",), ("deal", 0), ("net", 0))
        for text in (f"both(one(D),both(or(any(3,one(A)),one(B)),or(or({LARGE},nothing),one(B))))",
                     f"both(one(D),both(or(any(3,one(A)),one(B)),at(1,both(any(3,one(A)),{LARGE}))))"):
            found = signed(text, ("see", 1, 1), ("see", 2, 1), ("undo",), *told, ("close",), *told, ("see", 1, 0), ("redo",))
            self.assertEqual(found[11], [-75])
            self.assertEqual(found[3:11], found[12:20])
            self.assertEqual(found[3], [2, 1, 2])
            self.assertEqual(found[20:], [[-17], [0]])


class Day(unittest.TestCase):
    def test_at_the_beginning(self):
        self.assertEqual(ask(("day",)), [[0, 0, 0, 0]])

    def test_names_that_are_waited_for(self):
        for bit, name in enumerate("abcdefgh"):
            for text in (f"times({name},one(A))", f"if(le(0,{name}),one(A),one(B))", f"when(3,lt({name},0),one(A))"):
                found = signed(text, ("day",), ("see", bit, 5), ("day",))
                self.assertEqual(found, [[0, 1 << bit, 2, 0], [0], [0, 0, 3, 0]])

    def test_those_alone_that_are_not_seen_yet(self):
        found = signed("both(times(add(a,mul(c,h)),one(A)),both(times(b,one(A)),or(times(d,one(A)),at(1,times(e,one(A))))))",
                       ("day",), ("see", 2, 0), ("day",), ("see", 1, 0), ("day",), ("see", 7, 0), ("see", 0, 0), ("day",))
        self.assertEqual([answer[1] for answer in (found[0], found[2], found[4], found[7])], [0b10000111, 0b10000011, 0b10000001, 0])

    def test_what_is_not_looked_at_yet_does_not_count(self):
        for text in ("or(times(a,one(A)),one(B))", "at(1,times(a,one(A)))", "any(1,times(a,one(A)))", "times(b,times(a,one(A)))",
                     "if(le(b,0),times(a,one(A)),nothing)", "when(2,le(b,0),times(a,one(A)))"):
            self.assertEqual(signed(text, ("day",))[0][1] & 1, 0)

    def test_a_when_waits_anew_on_each_day(self):
        found = signed("when(2,le(a,0),one(A))", ("day",), ("see", 0, 1), ("day",), ("close",), ("day",), ("see", 0, 1),
                       ("close",), ("see", 0, 1), ("close",), ("day",))
        self.assertEqual([found[place][:2] for place in (0, 2, 4, 9)], [[0, 1], [0, 0], [1, 1], [3, 0]])

    def test_how_many_can_be_undone_and_done_again(self):
        found = ask(("see", 0, 1), ("close",), ("read", "nothing"), ("day",), ("undo",), ("day",), ("undo",), ("day",),
                    ("redo",), ("day",), ("see", 0, 2), ("day",))
        self.assertEqual([answer for answer in found if len(answer) == 4],
                         [[1, 0, 3, 0], [1, 0, 2, 1], [0, 0, 1, 2], [1, 0, 2, 1], [1, 0, 3, 0]])


if __name__ == "__main__":
    unittest.main()
