"""What holds over the whole program, a to f, at drawn lines of calls. The seeds are written: each run is the same."""

import random
import unittest

from payingpromises.desk import answers
from tests.helper import PARTS, SORTS, Model, ask, model_about, parse, split, told, value_of
from tests.test_random import some_call

PLAIN_WORDS = tuple(word for word in SORTS["c"] if word not in ("or", "any"))
NUMBERS = ("0", "1", "2", "-1", "-3", "7", "a", "b", "c", "h")


class Line:
    """Calls one behind another. Each time all of them are asked anew, and answered as before."""

    def __init__(self, parties):
        self.calls = []
        self.found = []
        self.ask("begin", parties)

    def ask(self, *call):
        self.calls.append(call)
        handed = told(self.calls)
        kept = list(handed)
        found = split(answers(handed))
        assert handed == kept, "the list that was handed in is another one"
        assert found[:-1] == self.found, "the same list is answered otherwise"
        self.found = found
        return found[-1]

    def payments(self, deal):
        paid = [self.ask("pay", k) for k in range(self.ask("pays")[0])]
        return [payment for payment in paid if payment[1] == deal]

    def awaited(self):
        bits = self.ask("day")[1]
        return [name for name in range(8) if bits >> name & 1]


def drawn(rng, words, sort, depth):
    """A promise's text, or that of a part of one, in which of promises these words alone stand."""
    if sort == "u":
        return rng.choice("ABCD")
    if sort == "d":
        return str(max(rng.randrange(7), rng.randrange(7)))
    if sort == "c" and depth <= 0:
        return "one(" + rng.choice("ABCD") + ")"
    if sort == "x" and (depth <= 0 or rng.random() < 0.7):
        return rng.choice(NUMBERS)
    choice = {"c": words, "p": SORTS["p"][:2] if depth <= 0 else SORTS["p"], "x": SORTS["x"]}[sort]
    word = rng.choice(choice)
    return word + "(" + ",".join(drawn(rng, words, inner, depth - 1) for inner in PARTS[word]) + ")"


def drawn_text(rng, words):
    """Several parts side by side, so that more than nothing comes of it."""
    text = drawn(rng, words, "c", rng.randrange(1, 6))
    for count in range(rng.randrange(4)):
        part = drawn(rng, words, "c", rng.randrange(1, 4))
        text = f"both({part},{text})"
    return text if len(text) <= 400 else drawn_text(rng, words)


def meant(tree, k, day, worths):
    """What a plain promise means, had on that day so many times: days, units, how much."""
    word = tree[0]
    if word == "one":
        return [(day, "ABCD".index(tree[1][0]), k)] if k else []
    if word == "both":
        return meant(tree[1], k, day, worths) + meant(tree[2], k, day, worths)
    if word == "turn":
        return meant(tree[1], -k, day, worths)
    if word == "times":
        return meant(tree[2], k * value_of(tree[1], worths[day]), day, worths)
    if word == "if":
        return meant(tree[2 if value_of(tree[1], worths[day]) else 3], k, day, worths)
    if word == "at" and day <= int(tree[1][0]):
        return meant(tree[2], k, int(tree[1][0]), worths)
    if word == "when":
        for later in range(day, int(tree[1][0]) + 1):
            if value_of(tree[2], worths[later]):
                return meant(tree[3], k, later, worths)
    return []


def disturb(rng, line):
    """Something else that is done meanwhile and doesn't touch the deal 0; its sides stay even and odd ones."""
    kind = rng.randrange(5)
    if kind == 0:
        line.ask("read", drawn_text(rng, SORTS["c"]))
        line.ask("sign", rng.randrange(3), 3 + rng.randrange(3), rng.randrange(1, 4))
    elif kind == 1:
        for number in line.ask("items")[1:]:
            holder = line.ask("item", number)[1]
            if line.ask("item", number)[0] > 0 and rng.random() < 0.5:
                line.ask("choose", holder, number, rng.randrange(2))
                line.ask("take", holder, number)
    elif kind == 2:
        who = line.ask("deal", 0)[1 + rng.randrange(2)]
        line.ask("assign", who, 0, (who + 2) % 6)
        line.ask("cancel", line.ask("deal", 0)[1], 0)
    elif kind == 3:
        behind = len([True for step in range(rng.randrange(4)) if line.ask("day")[2] > 4 and line.ask("undo")[0] >= 0])
        for step in range(behind):
            line.ask("redo")
    else:
        line.ask("cancel", 0, 1)
        line.ask("assign", 0, 1, 4)


def lived(rng, text, worths, signing, last):
    """A line in which this promise was signed as the deal 0 and days were closed; and on which day it ends."""
    line = Line(6)
    line.ask("read", text)
    for day in range(signing):
        line.ask("close")
    if line.ask("sign", 0, 1, 0) != [0]:
        return line, None
    for day in range(signing, last + 1):
        for step in range(rng.randrange(3)):
            disturb(rng, line)
        for name in range(8):
            if rng.random() < 0.3:
                line.ask("see", name, worths[day][name])
        if rng.random() < 0.5:
            disturb(rng, line)
        closed = line.ask("close")
        # What waits may let something else wait once it is seen.
        for round_ in range(40):
            if closed != [-61]:
                break
            for name in line.awaited():
                if line.ask("see", name, worths[day][name]) != [0]:
                    return line, day
            for number in line.ask("items")[1:]:
                line.ask("choose", line.ask("item", number)[1], number, 0)
            closed = line.ask("close")
        if closed != [day + 1]:
            return line, day
    return line, last + 1


def of_the_holder(payments):
    """The payments of a deal whose holder's side is even: days, units, how much (below 0: given)."""
    return sorted((day, unit, much if taker % 2 == 0 else -much) for day, deal, giver, taker, unit, much in payments)


class Paid(unittest.TestCase):
    """a: what's paid is what's meant. c: nothing comes of nothing. f: nothing is paid before or behind."""

    def test_by_what_was_seen(self):
        paid = 0
        for seed in range(70):
            rng = random.Random(seed)
            text = drawn_text(rng, PLAIN_WORDS)
            worths = [[rng.randrange(-3, 4) for name in range(8)] for day in range(9)]
            signing = rng.randrange(3)
            line, end = lived(rng, text, worths, signing, 7)
            if end is not None:
                found = [payment for payment in of_the_holder(line.payments(0)) if payment[0] < end]
                wanted = [payment for payment in meant(parse(text), 1, signing, worths) if payment[0] < end]
                self.assertEqual(found, sorted(wanted), (seed, text))
                paid += len(found)
            self.whole(line)
        self.assertGreater(paid, 100)

    def test_as_trial_tells(self):
        paid = 0
        for seed in range(1000, 1060):
            rng = random.Random(seed)
            text = drawn_text(rng, PLAIN_WORDS)
            values = [rng.randrange(-3, 4) for name in range(8)]
            signing = rng.randrange(3)
            line, end = lived(rng, text, [values] * 9, signing, 7)
            answer = line.ask("trial", 0, signing, values)
            if end is not None and answer[0] >= 0:
                wanted = [tuple(answer[place:place + 3]) for place in range(1, len(answer), 3)]
                found = [payment for payment in of_the_holder(line.payments(0)) if payment[0] < end]
                self.assertEqual(found, sorted(payment for payment in wanted if payment[0] < end), (seed, text))
                paid += len(found)
            self.whole(line)
        self.assertGreater(paid, 100)

    def whole(self, line):
        """Of each unit all have got together what all have given, on each day and over all."""
        today = line.ask("day")[0]
        paid = [line.ask("pay", k) for k in range(line.ask("pays")[0])]
        nets = [line.ask("net", day) for day in range(today + 1)]
        for unit in range(4):
            balances = [line.ask("balance", party)[1 + unit] for party in range(6)]
            self.assertEqual(sum(balances), 0)
            for party, balance in enumerate(balances):
                self.assertEqual(balance, sum(net[1 + 4 * party + unit] for net in nets))
                self.assertEqual(balance, sum(payment[5] * ((payment[3] == party) - (payment[2] == party))
                                              for payment in paid if payment[4] == unit))
            for net in nets:
                self.assertEqual(sum(net[1 + unit::4]), 0)
        for day, deal, giver, taker, unit, much in paid:
            self.assertGreater(much, 0)
            self.assertNotEqual(giver, taker)
            self.assertLessEqual(day, today)
            self.assertGreaterEqual(day, line.ask("deal", deal)[3])

    def test_not_behind_its_last_day(self):
        for seed in range(2000, 2060):
            rng = random.Random(seed)
            text = drawn_text(rng, SORTS["c"])
            worths = [[rng.randrange(-3, 4) for name in range(8)] for day in range(11)]
            signing = rng.randrange(3)
            line, end = lived(rng, text, worths, signing, 9)
            if end is not None:
                # What names no day is had, and paid, on the day when it's signed.
                bound = max(line.ask("about", 0)[1], signing)
                self.assertEqual(line.ask("about", 0), model_about(parse(text)))
                for payment in line.payments(0):
                    self.assertTrue(signing <= payment[0] <= bound, (seed, text, payment))

    def test_only_what_is_named_counts(self):
        for seed in range(3000, 3080):
            rng = random.Random(seed)
            text = drawn_text(rng, SORTS["c"])
            named = model_about(parse(text))[2]
            calls, others = [("read", text), ("sign", 0, 1, 0)], [("read", text), ("sign", 0, 1, 0)]
            for day in range(7):
                for name in rng.sample(range(8), 8):
                    value, other = rng.randrange(-3, 4), rng.randrange(-1000000, 1000000)
                    calls.append(("see", name, value))
                    others.append(("see", name, value if named >> name & 1 else other))
                for item in range(1, 9):
                    choice = rng.choice((("choose", 0, item, 0), ("choose", 1, item, 1), ("take", 0, item), ("items",)))
                    calls.append(choice)
                    others.append(choice)
                calls += [("close",), ("items",), ("net", day)]
                others += [("close",), ("items",), ("net", day)]
            self.assertEqual(ask(*calls), ask(*others), (seed, text))


class Tidied(unittest.TestCase):
    def test_written_and_read_it_is_the_same(self):
        for seed in range(60):
            text = drawn_text(random.Random(seed), SORTS["c"])
            written = ask(("read", text), ("write", 0))[1][1:]
            self.assertEqual(ask(("read", text), ("read", written), ("same", 0, 1), ("about", 0), ("about", 1))[2], [1])

    def test_tidied_it_pays_the_same(self):
        for seed in range(4000, 4200):
            rng = random.Random(seed)
            text = drawn_text(rng, PLAIN_WORDS + ("times", "turn", "at"))
            calls = [("read", text), ("tidy", 0), ("about", 0), ("about", 1), ("sign", 0, 1, 0), ("sign", 2, 1, 1)]
            for day in range(8):
                calls += [("see", name, rng.randrange(-3, 4)) for name in range(8)] + [("close",)]
            found = ask(*calls, ("balance", 0), ("balance", 2), *[("net", day) for day in range(8)])
            self.assertLessEqual(found[3][0], found[2][0])
            if [-75] not in found:
                self.assertEqual(found[-10], found[-9], (seed, text))
                for net in found[-8:]:
                    self.assertEqual(net[1:5], net[9:13], (seed, text))


class Turned(unittest.TestCase):
    def test_as_signed_the_other_way_round(self):
        for seed in range(5000, 5150):
            rng = random.Random(seed)
            text = drawn_text(rng, SORTS["c"])
            calls = []
            for day in range(8):
                for step in range(6):
                    item = rng.randrange(1, 12)
                    calls.append(rng.choice((("choose", rng.randrange(2), item, rng.randrange(2)),
                                             ("take", rng.randrange(2), item), ("item", item), ("items",), ("pays",))))
                calls += [("see", name, rng.randrange(-3, 4)) for name in range(8)] + [("close",), ("day",), ("net", day)]
            calls += [("assign", 1, 0, 2), ("items",), ("balance", 0), ("balance", 1)] + [("pay", k) for k in range(30)]
            start = (("read", text), ("make", 2, 0, 0, 0))
            straight = ask(*start, ("sign", 1, 0, 0), *calls)
            turned = ask(*start, ("sign", 0, 1, 1), *calls)
            self.assertEqual(turned, straight, (seed, text))


TOLD = tuple(
    [("write", c) for c in range(16)] + [("deal", k) for k in range(16)] + [("items",)] + [("item", i) for i in range(1, 60)]
    + [("pays",)] + [("pay", k) for k in range(40)] + [("balance", p) for p in range(4)] + [("net", day) for day in range(8)]
)


class Undone(unittest.TestCase):
    def changes(self, seed):
        """A drawn line of changes, none of which is refused."""
        rng = random.Random(seed)
        model = Model()
        model.begin(4)
        calls = []
        while len(calls) < 30:
            call = some_call(rng, model)
            if call[0] not in ("begin", "undo", "redo"):
                before = len(model.back)
                getattr(model, call[0])(*call[1:])
                if len(model.back) > before:
                    calls.append(call)
        return calls

    def told_behind(self, calls):
        found = split(answers(told([("begin", 4)] + calls + list(TOLD) + [("day",)])))
        return found[-len(TOLD) - 1:-1] + [found[-1][:2]], found[-1][2:]

    def test_as_before_and_as_behind(self):
        for seed in range(6000, 6012):
            calls = self.changes(seed)
            steps = [self.told_behind(calls[:count])[0] for count in range(len(calls) + 1)]
            for back in range(len(calls) + 1):
                line = calls + [("undo",)] * back
                left = len(calls) - back
                self.assertEqual(self.told_behind(line), (steps[left], [left, back]))
                forth = random.Random(seed + back).randrange(back + 1)
                self.assertEqual(self.told_behind(line + [("redo",)] * forth), (steps[left + forth], [left + forth, back - forth]))

    def test_gone_on_with_it_is_as_if_never_done(self):
        for seed in range(6100, 6130):
            calls = self.changes(seed)
            for other in (self.changes(seed + 1)[:12], calls[10:]):
                astray = calls[:10] + other + [("undo",)] * 40
                # All of it is undone, so that the line begins anew.
                self.assertEqual(self.told_behind(astray + calls)[0], self.told_behind(calls)[0])


if __name__ == "__main__":
    unittest.main()
