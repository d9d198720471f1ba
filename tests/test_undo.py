"""Point 12: undo, redo; and what holds of them over all kinds of changes."""

import unittest

from tests.helper import ask
from tests.test_choose import LARGE, signed

# Tells all that can be told of a small line.
ALL = tuple(
    [("write", c) for c in range(5)] + [("deal", k) for k in range(4)] + [("items",)] + [("item", i) for i in range(1, 16)]
    + [("pays",)] + [("pay", k) for k in range(12)] + [("balance", p) for p in range(3)] + [("net", day) for day in range(4)]
    + [("see", 8, 0), ("day",)]
)
# A line in which each kind of change stands.
LINE = (
    ("read", "both(or(any(3,one(A)),one(B)),both(any(2,one(C)),both(at(1,or(one(A),one(D))),times(a,one(A)))))"),
    ("tidy", 0), ("make", 2, 0, 0, 0), ("sign", 0, 1, 0), ("see", 0, 5), ("sign", 1, 2, 2), ("choose", 0, 1, 0), ("take", 0, 2),
    ("cancel", 1, 1), ("assign", 1, 0, 2), ("close",), ("cancel", 2, 1), ("see", 0, 4), ("see", 3, 1),
    ("close",), ("cancel", 0, 0), ("cancel", 2, 0), ("make", 4, 1, 0, 9), ("close",),
)


def told_behind(calls):
    """All that is told behind these calls but how many can be undone and done again."""
    found = ask(*calls, *ALL)[len(calls):]
    return found[:-1] + [found[-1][:2]]


class Undo(unittest.TestCase):
    def test_nothing_can_be_undone(self):
        self.assertEqual(ask(("undo",), ("undo",), ("day",)), [[-6], [-6], [0, 0, 0, 0]])
        self.assertEqual(ask(("see", 0, 1), ("undo",), ("undo",)), [[0], [0], [-6]])

    def test_how_many_more(self):
        found = ask(*[("see", name, 0) for name in range(5)], *[("undo",)] * 6)
        self.assertEqual(found[5:], [[4], [3], [2], [1], [0], [-6]])

    def test_each_kind_of_change(self):
        for count in range(1, len(LINE) + 1):
            with self.subTest(count=count):
                answer = ask(*LINE[:count])[-1]
                self.assertGreaterEqual(answer[0], 0)
                self.assertEqual(told_behind(LINE[:count] + (("undo",),)), told_behind(LINE[:count - 1]))
                self.assertEqual(ask(*LINE[:count], ("undo",), LINE[count - 1])[-1], answer)

    def test_all_of_them(self):
        for count in range(len(LINE) + 1):
            calls = LINE + (("undo",),) * (len(LINE) - count)
            self.assertEqual(told_behind(calls), told_behind(LINE[:count]))
            self.assertEqual(ask(*calls, ("day",))[-1][2:], [count, len(LINE) - count])

    def test_what_was_seen(self):
        self.assertEqual(signed("times(a,one(A))", ("see", 0, 5), ("undo",), ("items",), ("see", 0, 7), ("pay", 0), ("pays",)),
                         [[0], [2], [1, 1], [0], [0, 0, 1, 0, 0, 7], [1]])

    def test_a_close_brings_back_what_was_seen(self):
        found = ask(("read", "times(a,one(A))"), ("see", 0, 5), ("close",), ("undo",), ("see", 0, 1), ("sign", 0, 1, 0), ("pay", 0))
        self.assertEqual(found[2:], [[1], [2], [-17], [0], [0, 0, 1, 0, 0, 5]])

    def test_a_close_brings_back_the_ors(self):
        found = signed("or(or(one(A),one(B)),one(C))", ("close",), ("undo",), ("items",), ("pays",), ("choose", 0, 1, 1),
                       ("pay", 0))
        self.assertEqual(found, [[1], [2], [1, 1], [0], [0], [0, 0, 1, 0, 2, 1]])

    def test_who_wants_it_ended(self):
        found = signed("any(5,one(A))", ("cancel", 0, 0), ("undo",), ("cancel", 1, 0), ("undo",), ("cancel", 1, 0),
                       ("assign", 0, 0, 2), ("undo",), ("cancel", 0, 0), ("items",), ("undo",), ("items",), ("deal", 0),
                       ("cancel", 1, 0))
        self.assertEqual(found, [[0], [2], [0], [2], [0], [0], [3], [1], [0], [3], [1, 1], [0, 0, 1, 0, 1], [-17]])

    def test_numbers_are_given_again(self):
        found = signed("any(5,one(A))", ("sign", 1, 2, 0), ("items",), ("undo",), ("sign", 2, 0, 0), ("items",), ("deal", 1))
        self.assertEqual(found, [[1], [2, 1, 2], [2], [1], [2, 1, 2], [0, 2, 0, 0, 1]])

    def test_room_is_there_again(self):
        found = ask(*[("read", "nothing")] * 16, ("read", "one(A)"), ("undo",), ("read", "one(A)"), ("write", 15))
        self.assertEqual(found[16:19], [[-28], [15], [15]])
        self.assertEqual(bytes(found[19][1:]), b"one(A)")


class ThirtyTwo(unittest.TestCase):
    def test_32_and_33_changes(self):
        for count in (31, 32, 33, 40, 100):
            found = ask(*[("close",)] * count, ("day",), *[("undo",)] * 33, ("day",))
            kept = min(count, 32)
            self.assertEqual(found[count], [count, 0, kept, 0])
            self.assertEqual(found[count + 1:count + 34], [[left] for left in range(kept - 1, -1, -1)] + [[-6]] * (33 - kept))
            self.assertEqual(found[-1], [count - kept, 0, 0, kept])

    def test_done_again_there_are_32_still(self):
        found = ask(*[("close",)] * 40, *[("undo",)] * 10, ("day",), *[("redo",)] * 11, ("day",), *[("undo",)] * 33, ("day",))
        self.assertEqual(found[50], [30, 0, 22, 10])
        self.assertEqual(found[51:62], [[left] for left in range(9, -1, -1)] + [[-6]])
        self.assertEqual(found[62], [40, 0, 32, 0])
        self.assertEqual(found[63:96], [[left] for left in range(31, -1, -1)] + [[-6]])
        self.assertEqual(found[96], [8, 0, 0, 32])

    def test_changes_behind_undone_ones(self):
        found = ask(*[("close",)] * 40, *[("undo",)] * 10, ("close",), ("day",), *[("close",)] * 20, ("day",))
        self.assertEqual((found[51], found[72]), ([31, 0, 23, 0], [51, 0, 32, 0]))


class Redo(unittest.TestCase):
    def test_nothing_was_undone(self):
        self.assertEqual(ask(("redo",), ("see", 0, 1), ("redo",), ("undo",), ("redo",), ("redo",)),
                         [[-6], [0], [-6], [0], [0], [-6]])

    def test_done_again_all_is_as_behind(self):
        for back in range(1, len(LINE) + 1):
            for forth in range(1, back + 1):
                calls = LINE + (("undo",),) * back + (("redo",),) * forth
                count = len(LINE) - back + forth
                self.assertEqual(told_behind(calls), told_behind(LINE[:count]))
                self.assertEqual(ask(*calls)[-1], [back - forth])

    def test_nothing_behind_a_change(self):
        for change in (("see", 1, 1), ("read", "nothing"), ("tidy", 0), ("make", 2, 0, 0, 0), ("sign", 0, 1, 0), ("close",),
                       ("assign", 0, 0, 2), ("cancel", 0, 0), ("choose", 0, 1, 0), ("take", 0, 2)):
            found = signed("both(or(one(A),one(B)),any(5,one(A)))", ("see", 0, 1), ("undo",), change, ("redo",), ("day",))
            with self.subTest(change=change):
                self.assertGreaterEqual(found[2][0], 0)
                self.assertEqual(found[3], [-6])
                self.assertEqual(found[4][2:], [3, 0])

    def test_what_is_refused_is_no_change(self):
        for refused in (("read", "x"), ("tidy", 9), ("make", 9, 0, 0, 0), ("sign", 0, 0, 0), ("sign", 0, 1, 1), ("see", 9, 0),
                        ("choose", 1, 1, 0), ("choose", 0, 1, 0), ("take", 1, 2), ("take", 0, 2), ("close",),
                        ("assign", 0, 0, 1), ("cancel", 2, 0), ("begin", 7), ("pay", 9), ("balance", 9), ("net", 9)):
            text = f"both(or({LARGE},one(B)),any(5,{LARGE}))"
            found = ask(("read", text), ("read", LARGE), ("sign", 0, 1, 0), ("see", 0, 1), ("see", 1, 1), ("undo",), ("undo",),
                        refused, ("day",), ("redo",), ("redo",), ("see", 1, 1))
            with self.subTest(refused=refused):
                self.assertLess(found[7][0], 0)
                self.assertEqual(found[8:], [[0, 0, 3, 2], [1], [0], [-17]])

    def test_what_is_told_is_no_change(self):
        found = ask(("read", "one(A)"), ("sign", 0, 1, 0), ("undo",), ("write", 0), ("about", 0), ("same", 0, 0),
                    ("trial", 0, 0, [0] * 8), ("deal", 0), ("items",), ("item", 1), ("day",), ("pays",), ("pay", 0), ("balance", 0),
                    ("net", 0), ("redo",), ("pays",))
        self.assertEqual((found[10], found[15:]), ([0, 0, 1, 1], [[0], [1]]))

    def test_a_promise_tidied_that_comes_out_the_same_is_a_change(self):
        self.assertEqual(ask(("read", "one(A)"), ("tidy", 0), ("undo",), ("tidy", 0), ("redo",), ("undo",), ("write", 1)),
                         [[0], [1], [1], [1], [-6], [1], [-2]])


class Begin(unittest.TestCase):
    def test_nothing_to_undo_nor_to_do_again(self):
        found = ask(("see", 0, 1), ("close",), ("undo",), ("begin", 3), ("day",), ("undo",), ("redo",), ("see", 0, 1))
        self.assertEqual(found[3:], [[0], [0, 0, 0, 0], [-6], [-6], [0]])

    def test_all_is_empty(self):
        found = ask(*LINE, ("begin", 3), *ALL)[len(LINE) + 1:]
        self.assertEqual(found, ask(*ALL))


if __name__ == "__main__":
    unittest.main()
