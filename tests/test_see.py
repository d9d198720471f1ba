"""Point 7."""

import unittest

from tests.helper import ask, item_of, last
from tests.test_deals import FORTY
from tests.test_items import pending
from tests.test_texts import deep


class See(unittest.TestCase):
    def test_each_name_once_a_day(self):
        for name in range(8):
            self.assertEqual(ask(("see", name, 5), ("see", name, 5), ("see", name, -5)), [[0], [-17], [-17]])
        self.assertEqual(ask(*[("see", name, name) for name in range(8)]), [[0]] * 8)

    def test_no_such_name(self):
        for name in (8, 9, 4294967295):
            self.assertEqual(last(("see", name, 0)), [-22])

    def test_values_of_1000000_either_way(self):
        for value in (0, 1000000, -1000000):
            self.assertEqual(last(("see", 7, value)), [0])
        for value in (1000001, -1000001, 2147483647, -2147483648):
            self.assertEqual(ask(("see", 7, value), ("see", 7, 0)), [[-22], [0]])

    def test_the_first_refusal_named(self):
        self.assertEqual(last(("see", 0, 5), ("see", 0, 1000001)), [-22])
        self.assertEqual(last(("see", 0, 5), ("see", 8, 5)), [-22])
        large = (("read", "times(mul(a,mul(b,1000000)),one(A))"), ("sign", 0, 1, 0), ("see", 0, 1000000))
        self.assertEqual(last(*large, ("see", 0, 0)), [-17])
        self.assertEqual(last(*large, ("see", 1, 2)), [-75])

    def test_what_waited_is_done(self):
        for text, times in (("times(a,any(1,one(A)))", 5), ("times(a,times(a,any(1,one(A))))", 25),
                            ("if(le(a,5),any(1,one(A)),nothing)", 1), ("when(0,lt(4,a),any(1,one(A)))", 1)):
            self.assertEqual(pending(text, ("see", 0, 5)), [(2, 0, 0, 1, times, "any(1,one(A))")])
        self.assertEqual(pending("if(lt(a,5),any(1,one(A)),nothing)", ("see", 0, 5)), [])
        self.assertEqual(pending("times(a,one(A))", ("see", 0, 5)), [])

    def test_each_name_is_its_own(self):
        for bit, name in enumerate("abcdefgh"):
            for seen in range(8):
                found = pending(f"times({name},any(1,one(A)))", ("see", seen, 6))
                done = (2, 0, 0, 1, 6, "any(1,one(A))")
                waiting = (1, 0, 0, 1, 1, f"times({name},any(1,one(A)))")
                self.assertEqual(found, [done if seen == bit else waiting])

    def test_all_values_that_stand_in_it(self):
        text = "times(add(a,sub(c,h)),any(1,one(A)))"
        self.assertEqual(pending(text, ("see", 0, 5), ("see", 2, 7)), [(1, 0, 0, 1, 1, text)])
        self.assertEqual(pending(text, ("see", 0, 5), ("see", 2, 7), ("see", 7, 2)),
                         [(2, 0, 0, 1, 10, "any(1,one(A))")])

    def test_a_when_that_does_not_hold_stays_as_it_is(self):
        text = "when(0,lt(a,5),any(1,one(A)))"
        self.assertEqual(pending(text, ("see", 0, 5)), [(1, 0, 0, 1, 1, text)])
        self.assertEqual(pending(text, ("see", 0, 5), ("see", 1, 0)), [(1, 0, 0, 1, 1, text)])
        self.assertEqual(pending(text, ("see", 0, 4)), [(2, 0, 0, 1, 1, "any(1,one(A))")])

    def test_others_keep_their_numbers(self):
        found = pending("both(or(one(A),one(B)),both(times(a,any(2,one(A))),both(at(3,one(A)),times(b,one(A)))))",
                        ("see", 0, 4))
        self.assertEqual([item[0] for item in found], [1, 3, 4, 5])
        self.assertEqual(found[3], (5, 0, 0, 1, 4, "any(2,one(A))"))

    def test_new_numbers_in_order_of_the_old_ones(self):
        text = "both(times(a,both(any(1,one(A)),any(2,one(A)))),both(any(0,one(B)),if(le(0,a),turn(any(3,one(A))),nothing)))"
        self.assertEqual(pending(text, ("see", 0, 7)), [
            (2, 0, 0, 1, 1, "any(0,one(B))"), (4, 0, 0, 1, 7, "any(1,one(A))"), (5, 0, 0, 1, 7, "any(2,one(A))"),
            (6, 0, 1, 0, 1, "any(3,one(A))")])

    def test_what_comes_of_it_is_worked_out_at_once(self):
        text = "both(times(a,both(times(b,any(1,one(A))),any(2,one(A)))),times(a,any(3,one(A))))"
        self.assertEqual(pending(text, ("see", 1, 2), ("see", 0, 7)), [
            (3, 0, 0, 1, 14, "any(1,one(A))"), (4, 0, 0, 1, 7, "any(2,one(A))"), (5, 0, 0, 1, 7, "any(3,one(A))")])

    def test_a_part_that_waits_on_has_a_new_number(self):
        text = "times(a,times(b,any(1,one(A))))"
        self.assertEqual(pending(text, ("see", 0, 3)), [(2, 0, 0, 1, 3, "times(b,any(1,one(A)))")])
        self.assertEqual(pending(text, ("see", 0, 3), ("see", 1, 3)), [(3, 0, 0, 1, 9, "any(1,one(A))")])

    def test_seen_ahead_of_signing(self):
        found = ask(("read", "times(a,any(1,one(A)))"), ("see", 0, -3), ("sign", 0, 1, 0), ("item", 1))
        self.assertEqual(item_of(found[3]), (0, 0, 1, -3, "any(1,one(A))"))

    def test_items_of_all_deals(self):
        found = ask(("read", "times(a,any(1,one(A)))"), ("read", "if(le(a,0),nothing,any(2,one(B)))"), ("sign", 0, 1, 0),
                    ("sign", 1, 2, 1), ("see", 0, 8), ("items",), ("item", 3), ("item", 4))
        self.assertEqual(found[5], [2, 3, 4])
        self.assertEqual([item_of(answer) for answer in found[6:]],
                         [(0, 0, 1, 8, "any(1,one(A))"), (1, 1, 2, 1, "any(2,one(B))")])

    def test_10_to_the_12_times(self):
        calls = (("read", "times(mul(a,1000000),any(1,one(A)))"), ("read", "times(mul(sub(a,1),1000000),any(1,one(A)))"))
        for value in (1000000, -1000000):
            found = ask(*calls, ("sign", 0, 1, 0), ("see", 0, value), ("item", 2))
            self.assertEqual(item_of(found[4]), (0, 0, 1, value * 1000000, "any(1,one(A))"))
        found = ask(*calls, ("sign", 0, 1, 1), ("see", 0, -1000000), ("items",), ("see", 0, -999999), ("items",))
        self.assertEqual(found[3:], [[-75], [1, 1], [0], [1, 2]])

    def test_too_much_it_is_not_seen(self):
        found = ask(
            ("read", "both(times(a,any(1,one(A))),times(mul(a,mul(1000000,1000000)),one(A)))"), ("sign", 0, 1, 0),
            ("see", 0, 2), ("items",), ("item", 1), ("see", 0, 1), ("items",), ("see", 0, 2),
        )
        self.assertEqual(found[2:4], [[-75], [2, 1, 2]])
        self.assertEqual(item_of(found[4]), (0, 0, 1, 1, "times(a,any(1,one(A)))"))
        self.assertEqual(found[5:], [[0], [1, 3], [-17]])

    def test_48_items_and_one_more(self):
        many = deep("both(any(0,nothing),", "any(0,nothing)", ")", 22 * 21 + 14)
        two = "times(a,both(any(0,nothing),any(0,nothing)))"
        calls = (("read", many), ("read", two), ("read", "any(0,nothing)"), ("sign", 0, 1, 0), ("sign", 0, 1, 0),
                 ("sign", 0, 1, 1))
        found = ask(*calls, ("items",), ("see", 0, 1), ("items",), ("sign", 0, 1, 2))
        self.assertEqual(found[6:], [
            [47] + list(range(1, 48)), [0], [48] + list(range(1, 47)) + [48, 49], [-75]])
        found = ask(*calls, ("sign", 0, 1, 2), ("items",), ("see", 0, 1), ("items",), ("see", 1, 1))
        full = [48] + list(range(1, 49))
        self.assertEqual(found[6:], [[3], full, [-75], full, [0]])

    def test_what_goes_makes_room_for_what_comes(self):
        many = deep("both(any(0,nothing),", "any(0,nothing)", ")", 22 * 21 + 14)
        two = "both(times(a,both(any(0,nothing),any(0,nothing))),times(a,one(A)))"
        found = ask(("read", many), ("read", two), ("sign", 0, 1, 0), ("sign", 0, 1, 0), ("sign", 0, 1, 1), ("items",),
                    ("see", 0, 1), ("items",))
        self.assertEqual(found[5:], [
            [48] + list(range(1, 49)), [0], [48] + list(range(1, 47)) + [49, 50]])

    def test_400_payments_and_one_more(self):
        calls = (("read", FORTY), ("read", "both(times(a,one(A)),times(a,both(one(A),times(b,one(B)))))"),
                 ("read", deep("both(one(A),", "one(B)", ")", 37 * 13 + 6)), *[("sign", 0, 1, 0)] * 9, ("sign", 0, 1, 2),
                 ("sign", 0, 1, 1))
        found = ask(*calls, ("see", 0, 3), ("items",), ("see", 1, 1), ("items",), ("see", 1, 0), ("items",))
        self.assertEqual(found[14:], [[0], [1, 3], [-75], [1, 3], [0], [0]])


if __name__ == "__main__":
    unittest.main()
