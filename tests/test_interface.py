"""How calls and answers are told in lists."""

import unittest

from payingpromises.desk import answers
from tests.helper import raw, told

EACH = (
    ("begin", 1), ("begin", 4), ("read", "both(times(a,or(one(A),one(B))),at(3,one(C)))"), ("read", "x"), ("write", 0),
    ("about", 0), ("tidy", 0), ("same", 0, 1), ("make", 3, 0, 7, -5), ("read", "one(D)"), ("trial", 3, 4, [0] * 8),
    ("trial", 0, 4, [0] * 8), ("sign", 2, 3, 0), ("deal", 0), ("items",), ("item", 2), ("see", 0, -9), ("items",),
    ("item", 3), ("see", 0, 1), ("sign", 2, 3, 9), ("day",), ("choose", 2, 3, 1), ("choose", 2, 3, 1), ("pays",), ("pay", 0),
    ("pay", 1), ("read", "any(2,one(A))"), ("sign", 0, 1, 4), ("take", 0, 4), ("take", 0, 4), ("close",), ("net", 0), ("net", 2),
    ("balance", 2), ("balance", 4), ("assign", 2, 0, 1), ("assign", 2, 0, 1), ("cancel", 1, 0), ("cancel", 3, 0), ("undo",),
    ("redo",), ("redo",), ("day",), ("deal", 0),
)


class Interface(unittest.TestCase):
    def test_one_list(self):
        text = raw("one(A)")
        self.assertEqual(answers([0, 2, 1, 6] + text + [2, 0, 2, 1, 10]), [1, 0, 1, 0, 7, 6] + text + [1, -2, 1, 0])
        self.assertEqual(answers([0, 2, 1, 0, 10]), [1, 0, 1, -71, 1, 0])
        self.assertEqual(answers([0, 2, 1, 6] + text + [7, 0, 5, 8, 1, 2, 3, 4, 5, 6, 7, 8, 3, 0]),
                         [1, 0, 1, 0, 4, 1, 5, 0, 1, 4, 1, 0, 0, 1])

    def test_item_tells_bytes_without_a_count(self):
        text = "or(one(A),nothing)"
        self.assertEqual(answers(told((("begin", 2), ("read", text), ("sign", 1, 0, 0), ("item", 1)))),
                         [1, 0, 1, 0, 1, 0, 4 + len(text), 0, 1, 0, 1] + raw(text))

    def test_a_refusal_is_answered_by_its_number_alone(self):
        calls = (("begin", 2), ("begin", 7), ("read", "y"), ("write", 0), ("about", 0), ("tidy", 0), ("same", 0, 0),
                 ("make", 0, 0, 0, 0), ("trial", 0, 0, [0] * 8), ("sign", 0, 1, 0), ("deal", 0), ("item", 1), ("see", 8, 0),
                 ("choose", 0, 1, 0), ("take", 0, 1), ("pay", 0), ("assign", 0, 0, 1), ("cancel", 0, 0), ("balance", 2),
                 ("net", 1), ("undo",), ("redo",))
        self.assertEqual(answers(told(calls)),
                         [1, 0, 1, -22, 1, -71] + [1, -2] * 9 + [1, -22] + [1, -2] * 5 + [1, -22] * 2 + [1, -6] * 2)

    def test_each_call_by_its_number(self):
        text = raw("or(any(5,one(A)),one(B))")
        calls = [0, 2, 1, len(text)] + text + [8, 0, 1, 0]
        behind = len(answers(calls))
        for call, answer in (
            ([13, 0, 1, 1, 18, 0], [1, 0, 6, 0, 0, 1, 0, 1, 1]),
            ([13, 0, 1, 0, 14, 0, 2, 17], [1, 0, 1, 0, 1, 1]),
            ([15, 16], [1, 1, 4, 1, 0, 3, 0]),
            ([13, 0, 1, 1, 19, 0, 20, 0], [1, 0, 5, 0, 0, 1, 0, 0, 9, 0, 0, 1, 0, 0, 0, -1, 0, 0]),
            ([21, 0, 0, 1, 21, 2, 0, 1], [1, -17, 1, -1]),
            ([22, 0, 0, 22, 1, 0, 9, 0], [1, 0, 1, 1, 5, 1, 0, 1, 0, 0]),
            ([23, 24, 24], [1, 1, 1, 0, 1, -6]),
        ):
            self.assertEqual(answers(calls + call)[behind:], answer)

    def test_what_is_handed_in_is_the_same_afterwards(self):
        calls = told(EACH)
        before = list(calls)
        answers(calls)
        self.assertEqual(calls, before)

    def test_handed_in_twice_it_is_answered_the_same(self):
        first = answers(told(EACH))
        answers([0, 6, 12, 0, 5])
        self.assertEqual(answers(told(EACH)), first)
        first.append(5)
        self.assertEqual(answers(told(EACH)) + [5], first)

    def test_not_changed_for_a_while_either(self):
        class Watched(list):
            def refuse(self, *given):
                raise AssertionError("the list that was handed in is changed")
            append = extend = insert = pop = remove = reverse = sort = clear = refuse
            __setitem__ = __delitem__ = __iadd__ = __imul__ = refuse

        self.assertEqual(answers(Watched(told(EACH))), answers(told(EACH)))

    def test_whole_numbers_alone(self):
        for number in answers(told(EACH)):
            self.assertIs(int, number.__class__)

    def test_30000_numbers_and_5000_calls(self):
        self.assertEqual(answers([0, 2] + [10] * 4999), [1, 0] * 5000)
        text = "times(" + "add(a," * 80 + "a" + ")" * 80 + ",nothing)"
        calls = told([("begin", 2), ("read", text)] + [("sign", 0, 1, 0)] * 16 + [("trial", 0, 0, [7] * 8)] * 2400)
        self.assertLess(len(calls), 30000)
        self.assertEqual(answers(calls)[-4:], [1, 0, 1, 0])

    def test_5000_changes_back_and_forth(self):
        text = "or(" * 49 + "one(A)" + ",nothing)" * 49
        calls = [("begin", 6), ("read", text)] + [("sign", 0, 1, 0)] * 16 + [("close",), ("undo",)] * 2490
        found = answers(told(calls))
        self.assertEqual(len(found), 2 * len(calls))
        self.assertEqual(found[-4:], [1, 1, 1, 17])


if __name__ == "__main__":
    unittest.main()
