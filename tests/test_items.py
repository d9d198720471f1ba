"""Point 6: items, item; and what comes of each promise as it is signed."""

import unittest

from tests.helper import ask, item_of, last
from tests.test_texts import deep


def pending(text, *more):
    """The items that come of a deal between 0 and 1, with their numbers."""
    calls = (("read", text), ("sign", 0, 1, 0)) + more
    numbers = last(*calls, ("items",))
    assert numbers[0] == len(numbers) - 1
    return [(number,) + item_of(last(*calls, ("item", number))) for number in numbers[1:]]


class Items(unittest.TestCase):
    def test_none(self):
        self.assertEqual(ask(("items",), ("item", 0), ("item", 1)), [[0], [-2], [-2]])

    def test_what_is_done_at_once(self):
        for text in ("nothing", "one(A)", "turn(one(A))", "times(5,one(A))", "times(0,one(A))", "at(0,one(A))",
                     "if(le(0,0),one(A),any(5,one(A)))", "when(0,le(0,0),one(A))", "when(5,le(0,0),one(A))",
                     "both(one(A),both(nothing,one(B)))"):
            self.assertEqual(pending(text), [])

    def test_what_cannot_be_done_yet(self):
        for text in ("or(one(A),one(B))", "or(nothing,nothing)", "any(0,one(A))", "any(5,nothing)", "at(1,one(A))",
                     "at(1,nothing)", "times(a,one(A))", "times(mul(0,a),one(A))", "times(a,nothing)",
                     "if(le(a,0),one(A),one(A))", "if(le(mul(0,h),0),nothing,nothing)", "when(0,le(a,0),one(A))",
                     "when(0,lt(0,0),one(A))", "when(3,lt(0,0),one(A))", "when(3,le(a,a),nothing)"):
            self.assertEqual(pending(text), [(1, 0, 0, 1, 1, text)])

    def test_names_in_what_is_had_do_not_count(self):
        self.assertEqual(pending("if(le(0,1),times(a,one(A)),times(b,one(A)))"), [(1, 0, 0, 1, 1, "times(a,one(A))")])
        self.assertEqual(pending("times(2,times(a,one(A)))"), [(1, 0, 0, 1, 2, "times(a,one(A))")])
        self.assertEqual(pending("when(2,le(0,1),times(a,one(A)))"), [(1, 0, 0, 1, 1, "times(a,one(A))")])

    def test_any_of_the_values_can_be_missing(self):
        text = "if(some(le(0,0),le(a,b)),one(A),nothing)"
        self.assertEqual(len(pending(text)), 1)
        self.assertEqual(len(pending(text, ("see", 0, 1))), 1)
        self.assertEqual(len(pending(text, ("see", 1, 1))), 1)
        self.assertEqual(len(pending(text, ("see", 1, 1), ("see", 0, 1))), 0)

    def test_both_first_the_first_one(self):
        self.assertEqual(pending("both(any(1,one(A)),both(any(2,one(A)),any(3,one(A))))"), [
            (1, 0, 0, 1, 1, "any(1,one(A))"), (2, 0, 0, 1, 1, "any(2,one(A))"), (3, 0, 0, 1, 1, "any(3,one(A))")])
        self.assertEqual(pending("both(both(any(1,one(A)),any(2,one(A))),any(3,one(A)))"), [
            (1, 0, 0, 1, 1, "any(1,one(A))"), (2, 0, 0, 1, 1, "any(2,one(A))"), (3, 0, 0, 1, 1, "any(3,one(A))")])

    def test_turned_the_other_side_has_it(self):
        self.assertEqual(pending("turn(any(1,one(A)))"), [(1, 0, 1, 0, 1, "any(1,one(A))")])
        self.assertEqual(pending("turn(turn(any(1,one(A))))"), [(1, 0, 0, 1, 1, "any(1,one(A))")])
        self.assertEqual(pending("any(1,turn(one(A)))"), [(1, 0, 0, 1, 1, "any(1,turn(one(A)))")])
        self.assertEqual(pending("times(-2,turn(any(1,one(A))))"), [(1, 0, 1, 0, -2, "any(1,one(A))")])

    def test_turned_about_and_signed_it_is_as_signed_the_other_way_round(self):
        text = "both(times(3,or(one(A),one(B))),at(5,one(C)))"
        turned = ask(("read", text), ("make", 2, 0, 0, 0), ("sign", 0, 1, 1), ("items",), ("item", 1), ("item", 2))
        straight = ask(("read", text), ("make", 2, 0, 0, 0), ("sign", 1, 0, 0), ("items",), ("item", 1), ("item", 2))
        self.assertEqual(turned, straight)

    def test_how_many_times(self):
        self.assertEqual(pending("times(3,times(-4,any(1,one(A))))"), [(1, 0, 0, 1, -12, "any(1,one(A))")])
        self.assertEqual(pending("times(0,any(1,one(A)))"), [(1, 0, 0, 1, 0, "any(1,one(A))")])
        self.assertEqual(pending("times(1000000,times(-1000000,any(1,one(A))))"),
                         [(1, 0, 0, 1, -10 ** 12, "any(1,one(A))")])

    def test_if_and_when(self):
        self.assertEqual(pending("if(lt(1,2),any(1,one(A)),any(2,one(A)))"), [(1, 0, 0, 1, 1, "any(1,one(A))")])
        self.assertEqual(pending("if(lt(2,2),any(1,one(A)),any(2,one(A)))"), [(1, 0, 0, 1, 1, "any(2,one(A))")])
        self.assertEqual(pending("when(0,le(2,2),any(2,one(A)))"), [(1, 0, 0, 1, 1, "any(2,one(A))")])

    def test_numbers_go_on_from_deal_to_deal(self):
        found = ask(
            ("read", "both(any(1,one(A)),any(2,one(A)))"), ("read", "both(one(A),any(3,one(A)))"), ("read", "one(A)"),
            ("sign", 0, 1, 1), ("sign", 1, 2, 2), ("sign", 2, 0, 0), ("sign", 1, 0, 1), ("items",),
            ("item", 1), ("item", 2), ("item", 3), ("item", 4), ("item", 5), ("item", 0), ("item", 4294967295),
        )
        self.assertEqual(found[7], [4, 1, 2, 3, 4])
        self.assertEqual([item_of(answer) for answer in found[8:12]], [
            (0, 0, 1, 1, "any(3,one(A))"), (2, 2, 0, 1, "any(1,one(A))"), (2, 2, 0, 1, "any(2,one(A))"),
            (3, 1, 0, 1, "any(3,one(A))")])
        self.assertEqual(found[12:], [[-2], [-2], [-2]])

    def test_deep(self):
        for head in ("turn(", "times(1,", "at(0,", "both(nothing,", "if(le(0,0),", "when(0,le(0,0),"):
            tail = ",nothing)" if head.startswith("if") else ")"
            text = deep(head, "any(7,one(D))", tail, 600)
            holder = text.count("turn(") % 2
            with self.subTest(text=text):
                self.assertEqual(pending(text), [(1, 0, holder, 1 - holder, 1, "any(7,one(D))")])

    def test_the_whole_text_of_600_bytes(self):
        text = deep("any(9,", "one(A)", ")", 599)
        self.assertEqual(pending(text), [(1, 0, 0, 1, 1, text)])


if __name__ == "__main__":
    unittest.main()
