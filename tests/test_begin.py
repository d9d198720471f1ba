"""Point 1."""

import unittest

from payingpromises.desk import answers
from tests.helper import ask, split, told


class Begin(unittest.TestCase):
    def test_two_to_six_parties(self):
        for n in (2, 3, 4, 5, 6):
            self.assertEqual(answers([0, n]), [1, 0])
        for n in (0, 1, 7, 8, 4294967295):
            self.assertEqual(answers([0, n]), [1, -22])

    def test_refused_till_one_is_answered_0(self):
        self.assertEqual(answers([0, 1, 0, 7, 0, 2, 10]), [1, -22, 1, -22, 1, 0, 1, 0])

    def test_begun_again_all_is_empty(self):
        found = ask(
            ("read", "or(one(A),one(B))"), ("sign", 0, 1, 0), ("see", 0, 5), ("begin", 4),
            ("items",), ("item", 1), ("deal", 0), ("write", 0), ("see", 0, 6),
            ("read", "or(one(C),one(B))"), ("sign", 3, 0, 0), ("items",), ("deal", 0),
        )
        self.assertEqual(found[3:], [
            [0], [0], [-2], [-2], [-2], [0], [0], [0], [1, 1], [0, 3, 0, 0, 1],
        ])

    def test_refused_it_changes_nothing(self):
        found = ask(
            ("read", "or(one(A),one(B))"), ("sign", 0, 2, 0), ("see", 0, 5), ("begin", 7), ("begin", 1),
            ("items",), ("deal", 0), ("see", 0, 6), ("read", "nothing"), ("sign", 2, 1, 1), ("sign", 3, 1, 1),
        )
        self.assertEqual(found[3:], [[-22], [-22], [1, 1], [0, 0, 2, 0, 1], [-17], [1], [1], [-22]])

    def test_as_many_parties_as_begun_with(self):
        for n in (2, 6):
            calls = [("begin", n), ("read", "nothing"), ("sign", n - 1, 0, 0), ("sign", n, 0, 0), ("sign", 0, n, 0)]
            self.assertEqual(split(answers(told(calls)))[2:], [[0], [-22], [-22]])


if __name__ == "__main__":
    unittest.main()
