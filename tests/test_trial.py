"""Point 4."""

import unittest

from tests.helper import ZEROS, ask, last
from tests.test_texts import deep


def trial(text, day=0, **seen):
    values = [seen.get(name, 0) for name in "abcdefgh"]
    answer = last(("read", text), ("trial", 0, day, values))
    if answer[0] < 0:
        return answer
    assert len(answer) == 1 + 3 * answer[0]
    return [tuple(answer[place:place + 3]) for place in range(1, len(answer), 3)]


class Trial(unittest.TestCase):
    def test_units(self):
        self.assertEqual(trial("nothing"), [])
        for unit, name in enumerate("ABCD"):
            self.assertEqual(trial(f"one({name})", 9), [(9, unit, 1)])

    def test_both_in_its_order(self):
        self.assertEqual(trial("both(one(A),both(one(B),one(C)))"), [(0, 0, 1), (0, 1, 1), (0, 2, 1)])
        self.assertEqual(trial("both(both(one(C),one(B)),one(A))"), [(0, 2, 1), (0, 1, 1), (0, 0, 1)])
        # A later day told first comes first.
        self.assertEqual(trial("both(at(9,one(A)),at(3,one(B)))", 1), [(9, 0, 1), (3, 1, 1)])

    def test_turned_is_given(self):
        self.assertEqual(trial("turn(one(A))"), [(0, 0, -1)])
        self.assertEqual(trial("turn(turn(one(A)))"), [(0, 0, 1)])
        self.assertEqual(trial("turn(both(one(A),turn(one(B))))"), [(0, 0, -1), (0, 1, 1)])
        self.assertEqual(trial("turn(times(-3,one(A)))"), [(0, 0, 3)])

    def test_times(self):
        self.assertEqual(trial("times(5,times(-3,one(A)))"), [(0, 0, -15)])
        self.assertEqual(trial("times(0,one(A))"), [])
        self.assertEqual(trial("times(add(a,mul(b,sub(c,10))),one(A))", a=7, b=2, c=4), [(0, 0, -5)])
        self.assertEqual(trial("both(times(a,one(A)),times(h,one(B)))", h=-1000000), [(0, 1, -1000000)])

    def test_each_name_has_its_value(self):
        for name in "abcdefgh":
            self.assertEqual(trial(f"times({name},one(D))", **{name: 42}), [(0, 3, 42)])

    def test_conditions(self):
        for condition, a, holds in (
            ("le(a,3)", 2, True), ("le(a,3)", 3, True), ("le(a,3)", 4, False),
            ("lt(a,3)", 2, True), ("lt(a,3)", 3, False), ("lt(a,3)", 4, False), ("lt(-3,a)", -2, True),
            ("not(le(a,3))", 3, False), ("not(le(a,3))", 4, True), ("not(not(le(a,3)))", 3, True),
            ("all(le(0,a),le(a,9))", 5, True), ("all(le(0,a),le(a,9))", -1, False), ("all(le(0,a),le(a,9))", 10, False),
            ("some(le(a,0),le(9,a))", 0, True), ("some(le(a,0),le(9,a))", 9, True), ("some(le(a,0),le(9,a))", 5, False),
            ("all(not(le(a,3)),not(le(a,4)))", 4, False), ("all(not(le(a,3)),not(le(a,4)))", 5, True),
        ):
            with self.subTest(condition=condition, a=a):
                self.assertEqual(trial(f"if({condition},one(A),one(B))", a=a), [(0, 0 if holds else 1, 1)])
                self.assertEqual(trial(f"when(5,{condition},one(A))", 5, a=a), [(5, 0, 1)] if holds else [])

    def test_at(self):
        self.assertEqual(trial("at(5,one(A))", 4), [(5, 0, 1)])
        self.assertEqual(trial("at(5,one(A))", 5), [(5, 0, 1)])
        self.assertEqual(trial("at(5,one(A))", 6), [])
        self.assertEqual(trial("at(5,at(5,one(A)))", 5), [(5, 0, 1)])
        self.assertEqual(trial("at(5,at(6,one(A)))", 0), [(6, 0, 1)])
        self.assertEqual(trial("at(5,at(4,one(A)))", 0), [])
        self.assertEqual(trial("at(1000,one(A))", 1000), [(1000, 0, 1)])

    def test_when(self):
        self.assertEqual(trial("when(5,le(a,0),one(A))", 3), [(3, 0, 1)])
        self.assertEqual(trial("when(5,le(a,0),one(A))", 5), [(5, 0, 1)])
        self.assertEqual(trial("when(5,le(a,0),one(A))", 6), [])
        self.assertEqual(trial("when(5,lt(a,0),one(A))", 3), [])
        self.assertEqual(trial("at(4,when(5,le(a,0),one(A)))", 3), [(4, 0, 1)])
        self.assertEqual(trial("at(6,when(5,le(a,0),one(A)))", 3), [])
        self.assertEqual(trial("when(5,le(a,0),at(4,one(A)))", 3), [(4, 0, 1)])
        self.assertEqual(trial("when(5,le(a,0),at(4,one(A)))", 5), [])

    def test_what_is_not_had_does_not_count(self):
        self.assertEqual(trial("if(le(0,1),one(A),times(999999999,times(999999999,one(B))))"), [(0, 0, 1)])
        self.assertEqual(trial("at(3,times(999999999,times(999999999,one(B))))", 4), [])

    def test_1000_and_1001(self):
        self.assertEqual(trial("one(A)", 1000), [(1000, 0, 1)])
        self.assertEqual(trial("one(A)", 1001), [-22])
        self.assertEqual(trial("one(A)", 4294967295), [-22])

    def test_values_of_1000000_either_way(self):
        for name in "abcdefgh":
            for value, answer in ((1000000, [(0, 0, 1)]), (-1000000, [(0, 0, 1)]), (1000001, [-22]), (-1000001, [-22]),
                                  (2147483647, [-22]), (-2147483648, [-22])):
                self.assertEqual(trial("one(A)", 0, **{name: value}), answer)

    def test_not_plain(self):
        for text in ("or(one(A),one(B))", "any(5,one(A))", "if(le(1,0),or(nothing,nothing),nothing)",
                     "at(3,turn(any(0,nothing)))", "times(0,or(nothing,nothing))"):
            self.assertEqual(trial(text), [-33])

    def test_10_to_the_12_in_amount(self):
        self.assertEqual(trial("times(a,times(b,one(A)))", a=1000000, b=1000000), [(0, 0, 10 ** 12)])
        self.assertEqual(trial("times(a,times(b,one(A)))", a=1000000, b=-1000000), [(0, 0, -10 ** 12)])
        self.assertEqual(trial("times(add(1,mul(a,b)),one(A))", a=1000000, b=1000000), [-75])
        self.assertEqual(trial("times(sub(mul(a,b),1),one(A))", a=1000000, b=-1000000), [-75])
        self.assertEqual(trial("both(one(A),turn(times(add(1,mul(a,b)),one(A))))", a=1000000, b=1000000), [-75])

    def test_how_often_on_the_way_does_not_matter(self):
        self.assertEqual(trial("times(999999999,times(999999999,times(0,one(A))))"), [])
        self.assertEqual(trial("times(999999999,times(999999999,nothing))"), [])
        self.assertEqual(trial("times(mul(999999999,999999999),if(le(0,0),nothing,one(A)))"), [])

    def test_exact_however_large(self):
        power = deep("mul(", "1", ",a)", 230)
        times = power.count("mul")
        self.assertGreater(times, 30)
        self.assertEqual(trial(f"times(sub(add({power},7),{power}),one(A))", a=999999), [(0, 0, 7)])
        self.assertEqual(trial(f"if(lt({power},add({power},1)),one(A),one(B))", a=-1000000), [(0, 0, 1)])

    def test_as_many_payments_as_600_bytes_allow(self):
        text = deep("both(one(A),", "one(B)", ")", 600)
        count = text.count("one")
        self.assertEqual(trial(text, 3), [(3, 0, 1)] * (count - 1) + [(3, 1, 1)])

    def test_the_first_refusal_named(self):
        large = [0] * 7 + [1000001]
        wide = ("read", "or(one(A),one(B))")
        self.assertEqual(last(wide, ("trial", 1, 1001, large)), [-2])
        self.assertEqual(last(wide, ("trial", 0, 1001, ZEROS)), [-22])
        self.assertEqual(last(wide, ("trial", 0, 0, large)), [-22])
        self.assertEqual(last(wide, ("trial", 0, 0, ZEROS)), [-33])
        self.assertEqual(last(("read", "both(times(mul(999999999,999999999),one(A)),any(0,nothing))"),
                              ("trial", 0, 0, ZEROS)), [-33])

    def test_it_changes_nothing(self):
        found = ask(("read", "times(a,one(A))"), ("sign", 0, 1, 0), ("trial", 0, 5, [3] * 8), ("items",), ("see", 0, 2),
                    ("items",), ("read", "nothing"))
        self.assertEqual(found[2:], [[1, 5, 0, 3], [1, 1], [0], [0], [1]])

    def test_what_was_seen_does_not_matter(self):
        found = ask(("read", "times(a,one(A))"), ("see", 0, 9), ("trial", 0, 0, [4] + [0] * 7))
        self.assertEqual(found[2], [1, 0, 0, 4])

    def test_tidied_it_pays_the_same(self):
        text = "both(times(add(1,2),turn(turn(at(4,one(A))))),if(not(not(le(a,b))),times(1,one(B)),both(nothing,one(B))))"
        found = ask(("read", text), ("tidy", 0), ("trial", 0, 2, ZEROS), ("trial", 1, 2, ZEROS), ("same", 0, 1))
        self.assertEqual(found[2:], [[2, 4, 0, 3, 2, 1, 1]] * 2 + [[0]])


if __name__ == "__main__":
    unittest.main()
