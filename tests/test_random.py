"""Many lines of calls, held against the second telling in the helper. The seeds are written: each run is the same."""

import random
import unittest

from payingpromises.desk import answers
from tests.helper import PARTS, SORTS, Model, model_tidy, parse, show, split, told

SMALL = (0, 1, 2, 3, -1, -2, 5, 1000, 99999, 999999999, -999999999)
DAYS = (0, 0, 1, 1, 2, 2, 3, 4, 9, 999, 1000)
VALUES = (0, 1, 2, 3, -1, -5, 7, 1000000, -1000000)


def some_part(rng, sort, depth):
    if sort == "u":
        return rng.choice("ABCD")
    if sort == "d":
        return str(rng.choice(DAYS))
    if sort == "c" and (depth <= 0 or rng.random() < 0.1):
        return rng.choice(("nothing", "one(A)", "one(B)", "one(C)", "one(D)"))
    if sort == "x" and (depth <= 0 or rng.random() < 0.5):
        return rng.choice("abcdefgh") if rng.random() < 0.3 else str(rng.choice(SMALL))
    word = rng.choice(SORTS[sort][:2] if sort == "p" and depth <= 0 else SORTS[sort])
    return word + "(" + ",".join(some_part(rng, inner, depth - 1) for inner in PARTS[word]) + ")"


def some_text(rng):
    text = some_part(rng, "c", rng.randrange(10))
    while len(text) > 620:
        text = some_part(rng, "c", 4)
    return text


def broad_text(rng):
    """Of several parts side by side, so that much pends at once."""
    text = some_part(rng, "c", 3)
    for count in range(rng.randrange(9)):
        part = some_part(rng, "c", 3)
        text = f"both({part},{text})" if len(part) + len(text) < 590 else text
    return text


def spoilt(rng, text):
    place = rng.randrange(len(text) + 1)
    change = rng.randrange(3)
    sign = rng.choice("(),-0123456789abhiABEnotle ")
    return text[:place] + ("" if change == 0 else sign) + text[place + (change != 1):]


def some_item(rng, model, word):
    """The number and the holder of an item, best of one that begins with this word; sometimes neither is right."""
    fitting = [item for item in model.open if item[5][0] == word] or model.open
    number, holder = rng.randrange(40), rng.randrange(5)
    if fitting and rng.random() < 0.95:
        number, holder = rng.choice(fitting)[0::2][:2]
    if model.open and rng.random() < 0.1:
        number = rng.choice(model.open)[0]
    return number, rng.randrange(5) if rng.random() < 0.1 else holder


def some_side(rng, model):
    """The number of a deal and a side of it; sometimes neither is right."""
    deal = rng.randrange(len(model.deals)) if model.deals and rng.random() < 0.95 else rng.randrange(17)
    sides = model.deals[deal][1:3] if deal < len(model.deals) else (0, 1)
    return deal, rng.randrange(5) if rng.random() < 0.2 else rng.choice(sides)


def some_name(rng, model):
    waited = sorted(model.awaited())
    return rng.choice(waited) if waited and rng.random() < 0.8 else rng.randrange(9)


SHELF_CALLS = "read broad broad broad spoilt write about tidy same make make trial trial".split()
DEAL_CALLS = ("sign sign sign sign deal items items item item item see see see see see see choose choose choose take take "
              "close close close close day pays pay pay balance net assign assign cancel cancel undo undo redo redo").split()


def some_call(rng, model):
    number = rng.choice((0, 0, 0, 1, 1, 2, 3, 5, 15, 16))
    if model.shelf and rng.random() < 0.7:
        number = rng.randrange(len(model.shelf))
    kind = rng.choice(SHELF_CALLS if rng.random() < 0.3 else DEAL_CALLS)
    if kind == "redo" and not model.forth and rng.random() < 0.9:
        kind = "choose"
    if rng.random() < 0.003:
        return ("begin", rng.choice((1, 4, 4, 7)))
    values = [rng.choice(VALUES) for name in range(8)]
    if rng.random() < 0.05:
        values[rng.randrange(8)] = rng.choice((1000001, -1000001))
    if kind in ("choose", "take"):
        item, who = some_item(rng, model, "or" if kind == "choose" else "any")
        return (kind, who, item) + ((rng.choice((0, 0, 0, 1, 1, 1, 2)),) if kind == "choose" else ())
    if kind in ("assign", "cancel"):
        deal, who = some_side(rng, model)
        return (kind, who, deal) + ((rng.randrange(5),) if kind == "assign" else ())
    return {
        "read": lambda: ("read", some_text(rng)), "broad": lambda: ("read", broad_text(rng)), "spoilt": lambda: ("read", spoilt(rng, some_text(rng))),
        "write": lambda: ("write", number), "about": lambda: ("about", number), "tidy": lambda: ("tidy", number),
        "same": lambda: ("same", number, rng.randrange(4)),
        "make": lambda: ("make", rng.randrange(7), number, rng.randrange(4), rng.choice(SMALL + (1000000000, 1001))),
        "trial": lambda: ("trial", number, rng.choice(DAYS + (1001,)), values),
        "sign": lambda: ("sign", rng.randrange(4), rng.randrange(4), number), "deal": lambda: ("deal", number),
        "item": lambda: ("item", some_item(rng, model, "")[0]),
        "see": lambda: ("see", some_name(rng, model), rng.choice(VALUES + (1000001,))),
        "pay": lambda: ("pay", rng.randrange(len(model.paid) + 2)), "balance": lambda: ("balance", rng.randrange(5)),
        "net": lambda: ("net", rng.randrange(model.today + 2)),
    }.get(kind, lambda: (kind,))()


# Such lines would show little if they never came to these.
SELDOM = {
    "read": (-71, -28), "make": (-33, -22, -28), "tidy": (-28,), "trial": (-75, -33, -22), "sign": (-75, -28, -22, 0),
    "see": (-75, -17, -22, 0), "item": (0, -2), "choose": (-75, -22, -16, -2, -1, 0), "take": (-75, -16, -2, -1, 0),
    "close": (-75, -61, 0), "pay": (-2, 0), "balance": (-22, 0), "net": (-22, 0), "assign": (-22, -17, -16, -2, -1, 0),
    "cancel": (-17, -16, -2, -1, 0), "undo": (-6, 0), "redo": (-6, 0),
}


class RandomLines(unittest.TestCase):
    def test_lines_of_calls(self):
        tally = {}
        for seed in range(400):
            rng = random.Random(seed)
            model = Model()
            calls, wanted = [("begin", 4)], [model.begin(4)]
            while len(calls) < 300:
                calls.append(some_call(rng, model))
                wanted.append(getattr(model, calls[-1][0])(*calls[-1][1:]))
                tally[(calls[-1][0], min(wanted[-1][0], 0))] = True
            found = split(answers(told(calls)))
            self.assertEqual(len(found), len(calls))
            for place, call in enumerate(calls):
                self.assertEqual(found[place], wanted[place], (seed, place, call))
        for name, numbers in SELDOM.items():
            for number in numbers:
                self.assertIn((name, number), tally)

    def test_texts(self):
        rng = random.Random(77)
        texts = [some_text(rng) for count in range(1500)]
        texts = texts + [spoilt(rng, text) for text in texts]
        for text in texts:
            tree = parse(text)
            found = split(answers(told((("begin", 2), ("read", text), ("write", 0), ("tidy", 0), ("write", 1)))))[1:]
            if tree is None:
                self.assertEqual(found, [[-71], [-2], [-2], [-2]], text)
            else:
                tidied = show(model_tidy(tree))
                self.assertEqual(found, [[0], [len(text)] + list(text.encode()), [1],
                                         [len(tidied)] + list(tidied.encode())], text)

    def test_tidied_pays_the_same_and_is_never_larger(self):
        rng = random.Random(5)
        for count in range(1500):
            text = some_text(rng)
            values = [rng.choice(VALUES) for name in range(8)]
            found = split(answers(told((
                ("begin", 2), ("read", text), ("tidy", 0), ("trial", 0, 1, values), ("trial", 1, 1, values),
                ("about", 0), ("about", 1)))))
            if found[1] == [0]:
                if found[3] != [-33]:
                    self.assertEqual(found[3], found[4], text)
                self.assertLessEqual(found[6][0], found[5][0], text)


if __name__ == "__main__":
    unittest.main()
