"""Point 10: pays, pay, balance, net."""

import unittest

from tests.helper import ask
from tests.test_choose import signed

BIG = 4294967295
# Day 0: 1 gives 0 three of A, 0 gives 1 five of B. Day 1: 1 gives 0 one of A. Day 3: 1 gives 0 seven of C.
LONG = "both(times(3,one(A)),both(turn(times(5,one(B))),both(at(3,times(7,one(C))),at(1,one(A)))))"


class Pays(unittest.TestCase):
    def test_none_yet(self):
        self.assertEqual(ask(("pays",), ("pay", 0), ("read", "one(A)"), ("pays",)), [[0], [-2], [0], [0]])

    def test_as_they_were_booked(self):
        found = signed(LONG, ("pays",), ("close",), ("pays",), ("close",), ("close",), ("pays",), ("pay", 0), ("pay", 1),
                       ("pay", 2), ("pay", 3), ("pay", 4), ("pay", BIG))
        self.assertEqual(found[:6], [[2], [1], [3], [2], [3], [4]])
        self.assertEqual(found[6:], [
            [0, 0, 1, 0, 0, 3], [0, 0, 0, 1, 1, 5], [1, 0, 1, 0, 0, 1], [3, 0, 1, 0, 2, 7], [-2], [-2]])

    def test_of_which_deal(self):
        found = ask(("read", "one(A)"), ("read", "nothing"), ("sign", 2, 1, 1), ("sign", 2, 1, 0), ("sign", 0, 2, 0), ("pay", 0),
                    ("pay", 1))
        self.assertEqual(found[5:], [[0, 1, 1, 2, 0, 1], [0, 2, 2, 0, 0, 1]])

    def test_how_much_is_above_0(self):
        for text, payment in (("times(-5,one(A))", [0, 0, 0, 1, 0, 5]), ("turn(times(-5,one(B)))", [0, 0, 1, 0, 1, 5]),
                              ("times(-5,times(-2,one(C)))", [0, 0, 1, 0, 2, 10]), ("turn(one(D))", [0, 0, 0, 1, 3, 1])):
            self.assertEqual(signed(text, ("pay", 0)), [payment])

    def test_0_is_no_payment(self):
        self.assertEqual(signed("both(times(0,one(A)),times(a,one(B)))", ("see", 0, 0), ("pays",)), [[0], [0]])

    def test_two_alike_are_two(self):
        self.assertEqual(signed("both(one(A),one(A))", ("pays",), ("pay", 0), ("pay", 1)), [[2]] + [[0, 0, 1, 0, 0, 1]] * 2)

    def test_one_against_the_other_is_two(self):
        self.assertEqual(signed("both(one(A),turn(one(A)))", ("pays",), ("balance", 0)), [[2], [0, 0, 0, 0, 0]])


class Balance(unittest.TestCase):
    def test_got_less_given(self):
        calls = [("balance", 0), ("balance", 1), ("balance", 2)]
        found = signed(LONG, *calls, ("close",), *calls, ("close",), ("close",), *calls)
        self.assertEqual(found[:3], [[0, 3, -5, 0, 0], [0, -3, 5, 0, 0], [0, 0, 0, 0, 0]])
        self.assertEqual(found[4:7], [[0, 4, -5, 0, 0], [0, -4, 5, 0, 0], [0, 0, 0, 0, 0]])
        self.assertEqual(found[9:], [[0, 4, -5, 7, 0], [0, -4, 5, -7, 0], [0, 0, 0, 0, 0]])

    def test_over_all_deals(self):
        found = ask(("read", "times(10,one(A))"), ("read", "times(4,one(D))"), ("sign", 0, 1, 0), ("sign", 2, 0, 0),
                    ("sign", 2, 1, 1), ("balance", 0), ("balance", 1), ("balance", 2))
        self.assertEqual(found[5:], [[0, 0, 0, 0, 0], [0, -10, 0, 0, -4], [0, 10, 0, 0, 4]])

    def test_no_such_party(self):
        for n in range(2, 7):
            found = ask(("begin", n), ("balance", n - 1), ("balance", n), ("balance", BIG))
            self.assertEqual(found[1:], [[0, 0, 0, 0, 0], [-22], [-22]])

    def test_above_10_to_the_12_together(self):
        found = ask(("read", "times(1000000,times(1000000,one(B)))"), *[("sign", 0, 1, 0)] * 16, ("balance", 0), ("balance", 1))
        self.assertEqual(found[17:], [[0, 0, 16 * 10 ** 12, 0, 0], [0, 0, -16 * 10 ** 12, 0, 0]])


class Net(unittest.TestCase):
    def test_of_that_day_alone(self):
        found = signed(LONG, *[("close",)] * 4, ("net", 0), ("net", 1), ("net", 2), ("net", 3), ("net", 4))
        nobody = [0, 0, 0, 0]
        self.assertEqual(found[4:], [
            [0, 3, -5, 0, 0, -3, 5, 0, 0] + nobody, [0, 1, 0, 0, 0, -1, 0, 0, 0] + nobody, [0] + nobody * 3,
            [0, 0, 0, 7, 0, 0, 0, -7, 0] + nobody, [0] + nobody * 3])

    def test_a_day_that_is_to_come_and_today(self):
        found = signed("at(1,one(A))", ("net", 0), ("net", 1), ("net", BIG), ("close",), ("net", 1), ("net", 2), ("net", 0))
        self.assertEqual(found, [[0] + [0] * 12, [-22], [-22], [1], [0, 1, 0, 0, 0, -1, 0, 0, 0, 0, 0, 0, 0], [-22],
                                 [0] + [0] * 12])

    def test_day_1000_and_1001(self):
        found = ask(*[("close",)] * 1000, ("net", 1000), ("net", 1001))
        self.assertEqual(found[1000:], [[0] + [0] * 12, [-22]])

    def test_four_of_each_party(self):
        for n in range(2, 7):
            found = ask(("begin", n), ("read", "one(D)"), ("sign", n - 1, 0, 0), ("net", 0))
            self.assertEqual(found[3], [0, 0, 0, 0, -1] + [0] * 4 * (n - 2) + [0, 0, 0, 1])


class Telling(unittest.TestCase):
    def test_it_changes_nothing(self):
        told = (("day",), ("items",), ("pays",), ("pay", 0), ("balance", 0), ("net", 0))
        found = signed(LONG, ("see", 0, 1), ("undo",), *told, ("pay", 9), ("balance", 9), ("net", 9), *told, ("redo",))
        self.assertEqual(found[2:8], found[11:17])
        self.assertEqual(found[8:11] + found[17:], [[-2], [-22], [-22], [0]])


if __name__ == "__main__":
    unittest.main()
