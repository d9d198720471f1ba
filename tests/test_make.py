"""Point 3."""

import unittest

from tests.helper import ANY, AT, BOTH, OR, TIMES, TURN, ask, last, raw, written
from tests.test_texts import padded

SHELF = (("read", "one(A)"), ("read", "turn(one(B))"))


class Make(unittest.TestCase):
    def test_each_kind(self):
        for kind, x, text in (
            (BOTH, 5, "both(one(A),turn(one(B)))"),
            (OR, -5, "or(one(A),turn(one(B)))"),
            (TURN, 5000, "turn(one(A))"),
            (TIMES, 12, "times(12,one(A))"),
            (AT, 12, "at(12,one(A))"),
            (ANY, 12, "any(12,one(A))"),
        ):
            self.assertEqual(written(*SHELF, ("make", kind, 0, 1, x)), text)

    def test_what_is_told_about_it(self):
        for kind, x, about in (
            (BOTH, 12, [4, 0, 0, 1]), (OR, 12, [4, 0, 0, 0]), (TURN, 12, [2, 0, 0, 1]), (TIMES, 12, [2, 0, 0, 1]),
            (AT, 12, [2, 12, 0, 1]), (ANY, 12, [2, 12, 0, 0]),
        ):
            self.assertEqual(last(*SHELF, ("make", kind, 0, 1, x), ("about", 2)), about)

    def test_made_it_pays_like_a_read_one(self):
        for kind, x, paid in ((TIMES, 12, [1, 5, 0, 12]), (AT, 12, [1, 12, 0, 1]), (AT, 4, [0]), (TURN, 0, [1, 5, 0, -1]),
                              (BOTH, 0, [2, 5, 0, 1, 5, 1, -1])):
            self.assertEqual(last(*SHELF, ("make", kind, 0, 1, x), ("trial", 2, 5, [0] * 8)), paid)

    def test_first_and_second_in_their_order(self):
        self.assertEqual(written(*SHELF, ("make", BOTH, 1, 0, 0)), "both(turn(one(B)),one(A))")
        self.assertEqual(written(*SHELF, ("make", OR, 1, 1, 0)), "or(turn(one(B)),turn(one(B)))")

    def test_numbers_of_9_digits(self):
        for x in (0, -1, 999999999, -999999999):
            self.assertEqual(written(*SHELF, ("make", TIMES, 0, 0, x)), f"times({x},one(A))")
        for x in (1000000000, -1000000000, 2147483647, -2147483648):
            self.assertEqual(last(*SHELF, ("make", TIMES, 0, 0, x)), [-22])

    def test_days(self):
        for kind, word in ((AT, "at"), (ANY, "any")):
            for x in (0, 1, 1000):
                self.assertEqual(written(*SHELF, ("make", kind, 0, 0, x)), f"{word}({x},one(A))")
            for x in (-1, 1001, 2147483647, -2147483648):
                self.assertEqual(last(*SHELF, ("make", kind, 0, 0, x)), [-22])

    def test_x_does_not_count_for_other_kinds(self):
        for kind in (BOTH, OR, TURN):
            for x in (2147483647, -2147483648):
                self.assertEqual(last(*SHELF, ("make", kind, 0, 1, x)), [2])

    def test_no_such_kind(self):
        for kind in (6, 7, 4294967295):
            self.assertEqual(last(*SHELF, ("make", kind, 0, 0, 1)), [-22])
            self.assertEqual(last(*SHELF, ("make", kind, 0, 99, 1)), [-22])

    def test_b_counts_for_two_kinds_alone(self):
        for kind in (BOTH, OR):
            self.assertEqual(last(*SHELF, ("make", kind, 0, 2, 0)), [-2])
        for kind in (TURN, TIMES, AT, ANY):
            self.assertEqual(last(*SHELF, ("make", kind, 0, 2, 0)), [2])

    def test_no_such_one_comes_first(self):
        for kind in range(8):
            self.assertEqual(last(*SHELF, ("make", kind, 2, 0, -2147483648)), [-2])

    def test_600_bytes_and_601(self):
        for kind, word, x in ((TURN, "turn()", 0), (TIMES, "times(-12,)", -12), (AT, "at(1000,)", 1000),
                              (ANY, "any(7,)", 7), (BOTH, "both(,one(A))", 0), (OR, "or(,one(A))", 0)):
            for size, answer in ((599, 2), (600, 2), (601, -33)):
                inner = padded(size - len(word))
                found = ask(("read", inner), ("read", "one(A)"), ("make", kind, 0, 1, x), ("about", 2), ("write", 2))
                with self.subTest(word=word, size=size):
                    self.assertEqual(found[2], [answer])
                    self.assertEqual(found[4][0], size if answer == 2 else -2)

    def test_the_first_refusal_named(self):
        full = [("read", padded(600))] * 16
        self.assertEqual(last(*full, ("make", TIMES, 16, 0, 1000000000)), [-2])
        self.assertEqual(last(*full, ("make", TIMES, 0, 0, 1000000000)), [-22])
        self.assertEqual(last(*full, ("make", TIMES, 0, 0, 1)), [-33])
        self.assertEqual(last(("read", "nothing"), *full[1:], ("make", TIMES, 0, 0, 1)), [-28])

    def test_one_more_on_the_shelf_till_there_are_16(self):
        calls = [("read", "one(A)")] + [("make", TIMES, 0, 0, x) for x in range(2, 18)] + [("write", 15), ("write", 16)]
        found = ask(*calls)
        self.assertEqual(found[:17], [[number] for number in range(16)] + [[-28]])
        self.assertEqual(found[17:], [[16] + raw("times(16,one(A))"), [-2]])


if __name__ == "__main__":
    unittest.main()
