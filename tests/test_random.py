"""Many lines of calls, held against the second telling in the helper. The seeds are written: each run is the same."""

import random
import unittest

from payingpromises.desk import answers
from tests.helper import PARTS, SORTS, Model, model_tidy, parse, show, split, told

SMALL = (0, 1, 2, 3, -1, -2, 5, 1000, 99999, 999999999, -999999999)
DAYS = (0, 0, 1, 2, 3, 9, 999, 1000)
VALUES = (0, 1, 2, 3, -1, -5, 7, 1000000, -1000000)


def some_part(rng, sort, depth):
    if sort == "u":
        return rng.choice("ABCD")
    if sort == "d":
        return str(rng.choice(DAYS))
    if sort == "c" and (depth <= 0 or rng.random() < 0.1):
        return rng.choice(("nothing", "one(A)", "one(B)", "one(C)", "one(D)"))
    if sort == "x" and (depth <= 0 or rng.random() < 0.5):
        return rng.choice("abcdefgh") if rng.random() < 0.3 else str(rng.choice(SMALL))
    word = rng.choice(SORTS[sort][:2] if sort == "p" and depth <= 0 else SORTS[sort])
    return word + "(" + ",".join(some_part(rng, inner, depth - 1) for inner in PARTS[word]) + ")"


def some_text(rng):
    text = some_part(rng, "c", rng.randrange(10))
    while len(text) > 620:
        text = some_part(rng, "c", 4)
    return text


def spoilt(rng, text):
    place = rng.randrange(len(text) + 1)
    change = rng.randrange(3)
    sign = rng.choice("(),-0123456789abhiABEnotle ")
    return text[:place] + ("" if change == 0 else sign) + text[place + (change != 1):]


def some_call(rng):
    number = rng.choice((0, 0, 0, 1, 1, 2, 3, 5, 15, 16))
    kind = rng.choice("read read read spoilt write about tidy same make make trial trial sign sign sign sign deal "
                      "items items item item item see see see".split())
    values = [rng.choice(VALUES) for name in range(8)]
    if rng.random() < 0.05:
        values[rng.randrange(8)] = rng.choice((1000001, -1000001))
    return {
        "read": lambda: ("read", some_text(rng)), "spoilt": lambda: ("read", spoilt(rng, some_text(rng))),
        "write": lambda: ("write", number), "about": lambda: ("about", number), "tidy": lambda: ("tidy", number),
        "same": lambda: ("same", number, rng.randrange(4)),
        "make": lambda: ("make", rng.randrange(7), number, rng.randrange(4), rng.choice(SMALL + (1000000000, 1001))),
        "trial": lambda: ("trial", number, rng.choice(DAYS + (1001,)), values),
        "sign": lambda: ("sign", rng.randrange(4), rng.randrange(4), number), "deal": lambda: ("deal", number),
        "items": lambda: ("items",), "item": lambda: ("item", rng.randrange(40)),
        "see": lambda: ("see", rng.randrange(9), rng.choice(VALUES + (1000001,))),
    }[kind]()


class RandomLines(unittest.TestCase):
    def test_lines_of_calls(self):
        tally = {}
        for seed in range(400):
            rng = random.Random(seed)
            calls = [("begin", 4)] + [some_call(rng) for count in range(120)]
            model = Model()
            found = split(answers(told(calls)))
            self.assertEqual(len(found), len(calls))
            for place, call in enumerate(calls):
                wanted = getattr(model, call[0])(*call[1:])
                self.assertEqual(found[place], wanted, (seed, place, call))
                tally[(call[0], min(wanted[0], 0))] = True
        # Such lines would show little if they never came to these.
        for seldom in (("read", -71), ("read", -28), ("make", -33), ("make", -22), ("make", -28), ("tidy", -28),
                       ("trial", -75), ("trial", -33), ("trial", -22), ("sign", -75), ("sign", -28), ("see", -75),
                       ("see", -17), ("item", 0)):
            self.assertIn(seldom, tally)

    def test_texts(self):
        rng = random.Random(77)
        texts = [some_text(rng) for count in range(1500)]
        texts = texts + [spoilt(rng, text) for text in texts]
        for text in texts:
            tree = parse(text)
            found = split(answers(told((("begin", 2), ("read", text), ("write", 0), ("tidy", 0), ("write", 1)))))[1:]
            if tree is None:
                self.assertEqual(found, [[-71], [-2], [-2], [-2]], text)
            else:
                tidied = show(model_tidy(tree))
                self.assertEqual(found, [[0], [len(text)] + list(text.encode()), [1],
                                         [len(tidied)] + list(tidied.encode())], text)

    def test_tidied_pays_the_same_and_is_never_larger(self):
        rng = random.Random(5)
        for count in range(1500):
            text = some_text(rng)
            values = [rng.choice(VALUES) for name in range(8)]
            found = split(answers(told((
                ("begin", 2), ("read", text), ("tidy", 0), ("trial", 0, 1, values), ("trial", 1, 1, values),
                ("about", 0), ("about", 1)))))
            if found[1] == [0]:
                if found[3] != [-33]:
                    self.assertEqual(found[3], found[4], text)
                self.assertLessEqual(found[6][0], found[5][0], text)


if __name__ == "__main__":
    unittest.main()
