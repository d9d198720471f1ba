"""Point 2: read, write, about, tidy, same."""

import unittest

from tests.helper import ask, last, raw, written

GOOD = (
    "nothing", "one(A)", "one(B)", "one(C)", "one(D)", "both(nothing,one(A))", "or(one(A),nothing)", "turn(one(B))",
    "times(0,nothing)", "times(-1,nothing)", "times(999999999,nothing)", "times(-999999999,nothing)",
    "times(a,nothing)", "times(h,nothing)", "times(add(a,-3),nothing)", "times(sub(mul(b,c),d),nothing)",
    "if(le(1,2),nothing,nothing)", "if(lt(a,b),one(A),nothing)", "if(not(le(a,0)),nothing,nothing)",
    "if(all(le(a,0),lt(0,a)),nothing,nothing)", "if(some(le(e,f),not(lt(g,h))),nothing,nothing)",
    "at(0,nothing)", "at(1000,nothing)", "any(0,nothing)", "any(1000,nothing)",
    "when(0,le(a,a),nothing)", "when(1000,lt(add(1,1),a),one(D))",
)
BAD = (
    "", " ", "nothing ", " nothing", "nothing\n", "Nothing", "noth", "nothings", "nothing()", "nothingnothing",
    "one", "one(", "one()", "one(A", "one(A))", "one(E)", "one(a)", "one(AB)", "one(0)", "one(A,B)", "one(A)one(A)",
    "one A", "(one(A))", "one((A))", "one(A),", ",one(A)", ")", "(", ",",
    "both(nothing)", "both(nothing,nothing,nothing)", "both(nothing,)", "both(,nothing)", "both(nothing nothing)",
    "both(nothing;nothing)", "both(nothing, nothing)", "both(nothing,nothing", "both(le(a,b),nothing)",
    "or(nothing)", "turn()", "turn(nothing,nothing)", "turn(A)", "turn(a)",
    "times(nothing,nothing)", "times(1)", "times(,nothing)", "times(01,nothing)", "times(00,nothing)",
    "times(-0,nothing)", "times(-01,nothing)", "times(+1,nothing)", "times(--1,nothing)", "times(1-,nothing)",
    "times(-,nothing)", "times(-a,nothing)", "times(1a,nothing)", "times(1000000000,nothing)",
    "times(-1000000000,nothing)", "times(0000000001,nothing)", "times(i,nothing)", "times(A,nothing)",
    "times(ab,nothing)", "times(add,nothing)", "times(add(1),nothing)", "times(add(1,2,3),nothing)",
    "times(le(1,2),nothing)", "times(div(1,2),nothing)", "times(1,a)", "times(a(),nothing)", "times(1.5,nothing)",
    "if(a,nothing,nothing)", "if(le(a,b),nothing)", "if(le(a,b),nothing,nothing,nothing)", "if(le(a),nothing,nothing)",
    "if(not(a),nothing,nothing)", "if(not(le(a,b),le(a,b)),nothing,nothing)", "if(all(le(a,b)),nothing,nothing)",
    "if(all(a,b),nothing,nothing)", "if(ge(a,b),nothing,nothing)", "if(nothing,nothing,nothing)",
    "if(le(nothing,b),nothing,nothing)", "if(or(le(a,b),le(a,b)),nothing,nothing)", "if(1,nothing,nothing)",
    "at(nothing)", "at(1001,nothing)", "at(-1,nothing)", "at(-0,nothing)", "at(01,nothing)", "at(a,nothing)",
    "at(add(1,2),nothing)", "at(,nothing)", "at(1000000000,nothing)", "at(10000,nothing)", "any(1001,nothing)",
    "any(nothing)", "when(1,nothing)", "when(1,a,nothing)", "when(le(a,b),1,nothing)", "when(1001,le(a,b),nothing)",
    "when(1,le(a,b))", "some(nothing,nothing)", "all(nothing,nothing)", "not(nothing)", "le(a,b)", "add(1,2)", "5", "a",
    "and(nothing,nothing)", "one(\xc1)", "one(A)\x00", "times(\xb2,nothing)", "times(1\xb9,nothing)",
)


def padded(size):
    """A promise of so many bytes."""
    text = "nothing"
    while size - len(text) > 17:
        text = f"turn({text})"
    digits = "1" * (size - len(text) - len("times(,)"))
    text = f"times({digits},{text})"
    assert len(text) == size and 1 <= len(digits) <= 9, (len(text), size)
    return text


def deep(head, middle, tail, size):
    """Nested as deep as so many bytes allow."""
    depth = (size - len(middle)) // (len(head) + len(tail))
    return head * depth + middle + tail * depth


class Read(unittest.TestCase):
    def test_texts_of_promises_are_read_and_written_as_they_stand(self):
        for text in GOOD:
            with self.subTest(text=text):
                self.assertEqual(ask(("read", text), ("write", 0)), [[0], [len(text)] + raw(text)])

    def test_other_texts_are_none(self):
        for text in BAD:
            with self.subTest(text=text):
                self.assertEqual(ask(("read", text), ("write", 0)), [[-71], [-2]])

    def test_each_byte_that_has_no_place_there(self):
        for byte in range(256):
            if byte not in raw("ABCD"):
                with self.subTest(byte=byte):
                    self.assertEqual(last(("read", raw("one(") + [byte] + raw(")"))), [-71])

    def test_600_bytes_and_601(self):
        for size in (599, 600, 601, 602, 700):
            with self.subTest(size=size):
                text = padded(size)
                self.assertEqual(last(("read", text)), [0 if size <= 600 else -71])

    def test_cut_off_anywhere_it_is_none(self):
        text = "when(10,all(le(add(a,-1),b),not(lt(c,0))),if(le(1,2),times(5,one(A)),at(3,turn(any(4,nothing)))))"
        for size in range(len(text)):
            self.assertEqual(last(("read", text[:size])), [-71])
        self.assertEqual(last(("read", text)), [0])

    def test_nested_as_deep_as_600_bytes_allow(self):
        for text in (
            deep("turn(", "nothing", ")", 600),
            deep("both(nothing,", "nothing", ")", 600),
            deep("both(", "nothing", ",nothing)", 600),
            "if(" + deep("not(", "le(a,b)", ")", 570) + ",nothing,one(A))",
            "times(" + deep("add(", "a", ",b)", 580) + ",one(A))",
            "times(" + deep("add(b,", "a", ")", 580) + ",one(A))",
            "if(" + deep("all(le(0,0),", "le(a,b)", ")", 570) + ",nothing,one(A))",
            deep("at(9,", "one(A)", ")", 600),
            deep("any(9,", "one(A)", ")", 600),
        ):
            with self.subTest(text=text):
                self.assertGreater(len(text), 580)
                found = ask(("read", text), ("write", 0), ("tidy", 0), ("same", 0, 0), ("sign", 0, 1, 0))
                self.assertEqual(found[:2], [[0], [len(text)] + raw(text)])
                self.assertEqual(found[2:], [[1], [1], [0]])

    def test_16_lie_on_the_shelf_and_a_17th_does_not(self):
        calls = [("read", f"at({day},nothing)") for day in range(16)]
        found = ask(*calls, ("read", "nothing"), ("read", "nothin"), ("write", 16), ("tidy", 0), ("write", 15))
        self.assertEqual(found[:16], [[number] for number in range(16)])
        self.assertEqual(found[16:20], [[-28], [-71], [-2], [-28]])
        self.assertEqual(found[20], [14] + raw("at(15,nothing)"))

    def test_refused_it_takes_no_number(self):
        self.assertEqual(ask(("read", "x"), ("read", "nothing"), ("read", ""), ("read", "nothing")),
                         [[-71], [0], [-71], [1]])


class Write(unittest.TestCase):
    def test_no_such_one(self):
        self.assertEqual(ask(("write", 0), ("read", "nothing"), ("write", 1), ("write", 4294967295)),
                         [[-2], [0], [-2], [-2]])


class About(unittest.TestCase):
    def about(self, text):
        return last(("read", text), ("about", 0))

    def test_how_large(self):
        self.assertEqual(self.about("nothing"), [1, 0, 0, 1])
        self.assertEqual(self.about("one(D)"), [1, 0, 0, 1])
        self.assertEqual(self.about("both(one(A),turn(one(B)))"), [4, 0, 0, 1])
        self.assertEqual(self.about("if(not(le(add(1,2),3)),both(nothing,nothing),times(mul(1,2),nothing))"), [6, 0, 0, 1])

    def test_last_day_is_the_greatest_told(self):
        self.assertEqual(self.about("at(0,nothing)"), [2, 0, 0, 1])
        self.assertEqual(self.about("at(7,nothing)"), [2, 7, 0, 1])
        self.assertEqual(self.about("at(7,at(1000,nothing))"), [3, 1000, 0, 1])
        self.assertEqual(self.about("at(700,at(100,nothing))"), [3, 700, 0, 1])
        self.assertEqual(self.about("when(8,le(900,1),nothing)"), [2, 8, 0, 1])
        self.assertEqual(self.about("both(any(9,nothing),at(3,nothing))"), [5, 9, 0, 0])
        self.assertEqual(self.about("times(900,nothing)"), [2, 0, 0, 1])

    def test_names_as_bits(self):
        for bit, name in enumerate("abcdefgh"):
            self.assertEqual(self.about(f"times({name},nothing)"), [2, 0, 1 << bit, 1])
            self.assertEqual(self.about(f"if(le(0,{name}),nothing,nothing)"), [3, 0, 1 << bit, 1])
            self.assertEqual(self.about(f"when(0,not(lt(sub(1,{name}),0)),nothing)"), [2, 0, 1 << bit, 1])
        self.assertEqual(self.about("both(times(add(a,c),one(A)),if(le(h,a),nothing,times(d,one(B))))"),
                         [7, 0, 0b10001101, 1])
        # The letters of words and units are no names.
        self.assertEqual(self.about("both(one(A),at(1,any(2,one(B))))"), [5, 2, 0, 0])

    def test_plain_without_or_and_any(self):
        self.assertEqual(self.about("or(nothing,nothing)")[3], 0)
        self.assertEqual(self.about("any(0,nothing)")[3], 0)
        self.assertEqual(self.about("turn(at(1,if(le(a,b),nothing,times(2,or(nothing,nothing)))))")[3], 0)
        self.assertEqual(self.about("when(1,some(le(a,b),all(le(a,b),le(a,b))),nothing)")[3], 1)

    def test_no_such_one(self):
        self.assertEqual(ask(("about", 0), ("read", "nothing"), ("about", 1)), [[-2], [0], [-2]])


class Tidy(unittest.TestCase):
    def check(self, text, tidied):
        with self.subTest(text=text):
            self.assertEqual(written(("read", text), ("tidy", 0)), tidied)
            self.assertEqual(written(("read", text), ("tidy", 0), ("tidy", 1)), tidied)

    def test_amounts_of_numbers_alone(self):
        self.check("times(add(1,2),one(A))", "times(3,one(A))")
        self.check("times(sub(1,3),one(A))", "times(-2,one(A))")
        self.check("times(mul(-4,5),one(A))", "times(-20,one(A))")
        self.check("times(mul(0,a),one(A))", "times(mul(0,a),one(A))")
        self.check("times(add(a,add(1,2)),one(A))", "times(add(a,3),one(A))")
        self.check("times(add(add(1,2),add(a,mul(2,3))),one(A))", "times(add(3,add(a,6)),one(A))")
        self.check("if(le(add(1,1),a),one(A),nothing)", "if(le(2,a),one(A),nothing)")
        self.check("when(3,not(lt(b,sub(0,7))),one(A))", "when(3,not(lt(b,-7)),one(A))")

    def test_a_number_of_9_digits_and_one_of_10(self):
        self.check("times(add(999999998,1),one(A))", "times(999999999,one(A))")
        self.check("times(add(999999999,1),one(A))", "times(add(999999999,1),one(A))")
        self.check("times(sub(-999999998,1),one(A))", "times(-999999999,one(A))")
        self.check("times(sub(-999999999,1),one(A))", "times(sub(-999999999,1),one(A))")

    def test_within_an_amount_that_stays(self):
        self.check("times(mul(add(99999,1),add(99999,1)),one(A))", "times(mul(100000,100000),one(A))")
        self.check("times(add(mul(99999,99999),add(2,3)),one(A))", "times(add(mul(99999,99999),5),one(A))")

    def test_large_on_the_way_and_small_in_the_end_stays(self):
        for text in (
            "times(sub(add(999999999,1),1),one(A))",
            "times(sub(mul(99999,99999),mul(99999,99998)),one(A))",
            "times(sub(mul(99999,99999),mul(99999,99999)),one(A))",
            "times(mul(mul(999999999,999999999),0),one(A))",
            "times(mul(0,mul(999999999,999999999)),one(A))",
            "times(add(sub(-999999999,1),2),one(D))",
            "if(le(sub(add(999999999,1),1),0),one(A),one(B))",
        ):
            self.check(text, text)

    def test_beside_what_is_too_long(self):
        self.check("times(sub(add(999999999,1),add(1,2)),one(A))", "times(sub(add(999999999,1),3),one(A))")
        self.check("times(mul(sub(2,2),mul(add(1,2),500000000)),one(A))", "times(mul(0,mul(3,500000000)),one(A))")
        self.check("both(times(sub(add(999999999,1),1),one(A)),times(sub(2,2),one(B)))",
                   "times(sub(add(999999999,1),1),one(A))")

    def test_worked_out_it_is_exact_however_large(self):
        text = "times(sub(add(999999999,1),1),one(A))"
        found = ask(("read", text), ("tidy", 0), ("trial", 0, 0, [0] * 8), ("trial", 1, 0, [0] * 8))
        self.assertEqual(found[2:], [[1, 0, 0, 999999999]] * 2)

    def test_conditions(self):
        self.check("if(not(not(le(a,b))),one(A),nothing)", "if(le(a,b),one(A),nothing)")
        self.check("if(not(not(not(le(a,b)))),one(A),nothing)", "if(not(le(a,b)),one(A),nothing)")
        self.check("if(not(not(not(not(le(a,b))))),one(A),nothing)", "if(le(a,b),one(A),nothing)")
        self.check("if(all(not(not(lt(a,b))),le(1,2)),one(A),nothing)", "if(all(lt(a,b),le(1,2)),one(A),nothing)")
        self.check("if(le(1,2),one(A),nothing)", "if(le(1,2),one(A),nothing)")
        self.check("if(not(all(not(le(1,2)),not(le(1,2)))),one(A),nothing)",
                   "if(not(all(not(le(1,2)),not(le(1,2)))),one(A),nothing)")

    def test_with_nothing(self):
        self.check("nothing", "nothing")
        self.check("both(nothing,one(A))", "one(A)")
        self.check("both(one(A),nothing)", "one(A)")
        self.check("both(nothing,nothing)", "nothing")
        self.check("both(one(A),one(A))", "both(one(A),one(A))")
        self.check("or(nothing,nothing)", "nothing")
        self.check("or(nothing,one(A))", "or(nothing,one(A))")
        self.check("or(one(A),nothing)", "or(one(A),nothing)")
        self.check("or(one(A),one(A))", "or(one(A),one(A))")
        self.check("turn(nothing)", "nothing")
        self.check("times(a,nothing)", "nothing")
        self.check("at(5,nothing)", "nothing")
        self.check("when(5,le(a,b),nothing)", "nothing")
        self.check("any(5,nothing)", "nothing")
        self.check("if(le(a,b),nothing,nothing)", "nothing")
        self.check("if(le(a,b),one(A),nothing)", "if(le(a,b),one(A),nothing)")
        self.check("any(5,both(turn(nothing),at(3,nothing)))", "nothing")

    def test_turned_twice(self):
        self.check("turn(one(A))", "turn(one(A))")
        self.check("turn(turn(one(A)))", "one(A)")
        self.check("turn(turn(turn(one(A))))", "turn(one(A))")
        self.check("turn(times(1,turn(one(A))))", "one(A)")
        self.check("turn(both(turn(one(A)),nothing))", "one(A)")

    def test_times_0_and_1(self):
        self.check("times(0,one(A))", "nothing")
        self.check("times(1,one(A))", "one(A)")
        self.check("times(-1,one(A))", "times(-1,one(A))")
        self.check("times(2,times(3,one(A)))", "times(2,times(3,one(A)))")
        self.check("times(sub(2,1),or(one(A),one(B)))", "or(one(A),one(B))")
        self.check("times(add(-1,1),or(one(A),one(B)))", "nothing")

    def test_if_of_two_that_are_the_same_then(self):
        self.check("if(le(a,b),one(A),one(A))", "one(A)")
        self.check("if(le(a,b),one(A),one(B))", "if(le(a,b),one(A),one(B))")
        self.check("if(le(a,b),times(add(1,1),one(A)),times(2,one(A)))", "times(2,one(A))")
        self.check("if(le(a,b),turn(turn(one(A))),both(nothing,one(A)))", "one(A)")
        self.check("if(le(a,b),both(one(A),one(B)),both(one(B),one(A)))",
                   "if(le(a,b),both(one(A),one(B)),both(one(B),one(A)))")

    def test_at_within_at(self):
        self.check("at(5,at(4,one(A)))", "nothing")
        self.check("at(5,at(5,one(A)))", "at(5,at(5,one(A)))")
        self.check("at(5,at(6,one(A)))", "at(5,at(6,one(A)))")
        self.check("at(10,at(9,one(A)))", "nothing")
        self.check("at(1,at(5,at(4,one(A))))", "nothing")
        self.check("at(5,times(1,at(4,one(A))))", "nothing")
        self.check("at(5,any(4,one(A)))", "at(5,any(4,one(A)))")
        self.check("at(5,when(4,le(a,b),one(A)))", "at(5,when(4,le(a,b),one(A)))")
        self.check("any(5,at(4,one(A)))", "any(5,at(4,one(A)))")

    def test_what_was_tidied_stays_as_it_was(self):
        text = "both(nothing,one(A))"
        found = ask(("read", text), ("tidy", 0), ("write", 0), ("write", 1))
        self.assertEqual(found, [[0], [1], [len(text)] + raw(text), [6] + raw("one(A)")])

    def test_deep(self):
        self.check(deep("turn(", "one(A)", ")", 600), "one(A)" if (594 // 6) % 2 == 0 else "turn(one(A))")
        self.check(deep("both(nothing,", "one(A)", ")", 600), "one(A)")
        self.check("times(" + deep("add(", "1", ",1)", 580) + ",one(A))", f"times({579 // 7 + 1},one(A))")
        self.check("times(" + deep("mul(", "a", ",b)", 580) + ",one(A))",
                   "times(" + deep("mul(", "a", ",b)", 580) + ",one(A))")
        large = "times(" + deep("mul(", "999999999", ",999999999)", 580) + ",one(A))"
        self.check(large, large)

    def test_refusals(self):
        self.assertEqual(ask(("tidy", 0), ("read", "nothing"), ("tidy", 1)), [[-2], [0], [-2]])
        shelf = [("read", "nothing")] * 15
        self.assertEqual(ask(*shelf, ("tidy", 0), ("tidy", 0), ("tidy", 16), ("write", 16))[15:],
                         [[15], [-28], [-2], [-2]])


class Same(unittest.TestCase):
    def test_letter_by_letter(self):
        found = ask(
            ("read", "both(one(A),nothing)"), ("read", "one(A)"), ("read", "both(one(A),nothing)"), ("tidy", 0),
            ("same", 0, 0), ("same", 0, 1), ("same", 0, 2), ("same", 2, 0), ("same", 1, 3), ("same", 3, 0),
        )
        self.assertEqual(found[4:], [[1], [0], [1], [1], [1], [0]])

    def test_made_or_read_is_the_same(self):
        found = ask(("read", "one(A)"), ("make", 3, 0, 0, -7), ("read", "times(-7,one(A))"), ("same", 1, 2),
                    ("read", "times(7,one(A))"), ("same", 1, 3))
        self.assertEqual((found[3], found[5]), ([1], [0]))

    def test_no_such_one(self):
        found = ask(("same", 0, 0), ("read", "nothing"), ("same", 0, 1), ("same", 1, 0), ("same", 0, 0))
        self.assertEqual(found, [[-2], [0], [-2], [-2], [1]])


if __name__ == "__main__":
    unittest.main()
