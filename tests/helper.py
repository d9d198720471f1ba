"""Talks to the desk in words, and a second telling of the document to hold its answers against."""

import re

from payingpromises.desk import answers

NUMBERS = {
    "begin": 0, "read": 1, "write": 2, "about": 3, "tidy": 4, "same": 5, "make": 6, "trial": 7,
    "sign": 8, "deal": 9, "items": 10, "item": 11, "see": 12, "choose": 13, "take": 14, "close": 15,
    "day": 16, "pays": 17, "pay": 18, "balance": 19, "net": 20, "assign": 21, "cancel": 22, "undo": 23,
    "redo": 24,
}
BOTH, OR, TURN, TIMES, AT, ANY = range(6)
ZEROS = [0] * 8


def raw(text):
    return list(text.encode("latin-1"))


def told(calls):
    """Calls such as ("read", "one(A)") in one list of whole numbers."""
    numbers = []
    for call in calls:
        numbers.append(NUMBERS[call[0]])
        for given in call[1:]:
            row = raw(given) if isinstance(given, str) else given
            if isinstance(row, list):
                numbers.append(len(row))
                numbers.extend(row)
            else:
                numbers.append(row)
    return numbers


def split(answered):
    """The one list of answers as a list for each call."""
    parted = []
    place = 0
    while place < len(answered):
        count = answered[place]
        parted.append(answered[place + 1:place + 1 + count])
        assert len(parted[-1]) == count, "the list of answers ends too early"
        place += 1 + count
    return parted


def ask(*calls):
    """What each of these calls answers, with a begin of three parties ahead that isn't told."""
    parted = split(answers(told((("begin", 3),) + calls)))
    assert parted[0] == [0] and len(parted) == len(calls) + 1
    return parted[1:]


def last(*calls):
    return ask(*calls)[-1]


def written(*calls):
    """The text of what the last of these calls put on the shelf."""
    number = last(*calls)[0]
    assert number >= 0, number
    answer = last(*calls, ("write", number))
    assert answer[0] == len(answer) - 1
    return bytes(answer[1:]).decode("ascii")


def item_of(answer):
    """An item's answer with its text as a text."""
    return tuple(answer[:4]) + (bytes(answer[4:]).decode("ascii"),)


# From here on: the document told once more, by recursion over nested tuples.

PARTS = {
    "one": "u", "both": "cc", "or": "cc", "turn": "c", "times": "xc", "if": "pcc", "at": "dc",
    "when": "dpc", "any": "dc", "le": "xx", "lt": "xx", "not": "p", "all": "pp", "some": "pp",
    "add": "xx", "sub": "xx", "mul": "xx",
}
SORTS = {
    "c": ("one", "both", "or", "turn", "times", "if", "at", "when", "any"),
    "p": ("le", "lt", "not", "all", "some"), "x": ("add", "sub", "mul"), "d": (), "u": (),
}
SINGLE = {
    "c": r"nothing", "u": r"[A-D]", "x": r"[a-h](?![a-z])|0(?![0-9])|-?[1-9][0-9]{0,8}(?![0-9])",
    "d": r"1000(?![0-9])|0(?![0-9])|[1-9][0-9]{0,2}(?![0-9])", "p": r"(?!)",
}


def parse(text):
    """Nested tuples, or None."""
    if len(text) > 600:
        return None
    found = parse_part(text, 0, "c")
    return found[0] if found and found[1] == len(text) else None


def parse_part(text, place, sort):
    for word in SORTS[sort]:
        if text.startswith(word + "(", place):
            parts, place = [word], place + len(word)
            for mark, inner in zip("(,,", PARTS[word]):
                if text[place:place + 1] != mark:
                    return None
                found = parse_part(text, place + 1, inner)
                if not found:
                    return None
                parts.append(found[0])
                place = found[1]
            return (tuple(parts), place + 1) if text[place:place + 1] == ")" else None
    found = re.compile(SINGLE[sort]).match(text, place)
    return ((found.group(),), found.end()) if found else None


def show(tree):
    return tree[0] + ("(" + ",".join(map(show, tree[1:])) + ")" if len(tree) > 1 else "")


def inside(tree):
    yield tree
    for part in tree[1:]:
        yield from inside(part)


def is_promise(tree):
    return tree[0] == "nothing" or tree[0] in SORTS["c"]


def names_in(tree):
    return {"abcdefgh".index(part[0]) for part in inside(tree) if part[0] in tuple("abcdefgh")}


def model_about(tree):
    days = [int(part[1][0]) for part in inside(tree) if part[0] in ("at", "when", "any")]
    plain = not any(part[0] in ("or", "any") for part in inside(tree))
    return [sum(map(is_promise, inside(tree))), max(days, default=0),
            sum(1 << name for name in names_in(tree)), int(plain)]


def value_of(tree, values):
    word = tree[0]
    if word in tuple("abcdefgh"):
        return values["abcdefgh".index(word)]
    if len(tree) == 1:
        return int(word)
    parts = [value_of(part, values) for part in tree[1:]]
    return {
        "add": lambda x, y: x + y, "sub": lambda x, y: x - y, "mul": lambda x, y: x * y,
        "le": lambda x, y: x <= y, "lt": lambda x, y: x < y, "not": lambda x: not x,
        "all": lambda x, y: x and y, "some": lambda x, y: x or y,
    }[word](*parts)


def model_tidy(tree):
    if len(tree) == 1:
        return tree
    word, nothing = tree[0], ("nothing",)
    tree = (word,) + tuple(model_tidy(part) for part in tree[1:])
    if word in SORTS["x"]:
        alone = all(len(part) == 1 and not names_in(part) for part in tree[1:])
        number = value_of(tree, ZEROS)
        return (str(number),) if alone and abs(number) < 10 ** 9 else tree
    if word in ("turn", "not") and tree[1][0] == word:
        return tree[1][1]
    if word == "both" and nothing in tree[1:]:
        return tree[2] if tree[1] == nothing else tree[1]
    if word in ("or", "turn", "times", "at", "when", "any") and all(
            part == nothing for part in tree[1:] if is_promise(part)):
        return nothing
    if word == "times" and tree[1] in (("0",), ("1",)):
        return nothing if tree[1] == ("0",) else tree[2]
    if word == "if" and tree[2] == tree[3]:
        return tree[2]
    if word == "at" and tree[2][0] == "at" and int(tree[2][1][0]) < int(tree[1][0]):
        return nothing
    return tree


def model_trial(tree, k, day, values):
    word = tree[0]
    if word == "one":
        return [(day, "ABCD".index(tree[1][0]), k)] if k else []
    if word == "both":
        return model_trial(tree[1], k, day, values) + model_trial(tree[2], k, day, values)
    if word == "turn":
        return model_trial(tree[1], -k, day, values)
    if word == "times":
        return model_trial(tree[2], k * value_of(tree[1], values), day, values)
    if word == "if":
        return model_trial(tree[2 if value_of(tree[1], values) else 3], k, day, values)
    if word == "at" and day <= int(tree[1][0]):
        return model_trial(tree[2], k, int(tree[1][0]), values)
    if word == "when" and day <= int(tree[1][0]) and value_of(tree[2], values):
        return model_trial(tree[3], k, day, values)
    return []


class Refused(Exception):
    """Told by its number."""


class Model:
    """The object, call by call; answers as the desk does. What can be undone is kept as whole copies."""

    def __init__(self):
        self.begin(2)

    def begin(self, n):
        if not 2 <= n <= 6:
            return [-22]
        self.n, self.shelf, self.deals, self.open, self.paid = n, [], [], [], []
        self.seen, self.today, self.given, self.wants = {}, 0, 0, []
        self.back, self.forth = [], []
        return [0]

    def kept(self):
        return (list(self.shelf), list(self.deals), list(self.open), list(self.paid), dict(self.seen), self.today,
                self.given, list(self.wants))

    def put_back(self, kept):
        (self.shelf, self.deals, self.open, self.paid, self.seen, self.today, self.given, self.wants) = (
            list(part) if isinstance(part, list) else dict(part) if isinstance(part, dict) else part for part in kept)

    def change(self, does):
        """Does it, or nothing if that is refused; what it gives back is answered."""
        before = self.kept()
        try:
            answer = does()
        except Refused as refused:
            self.put_back(before)
            return [refused.args[0]]
        self.back = (self.back + [before])[-32:]
        self.forth = []
        return [answer]

    def undo(self):
        if not self.back:
            return [-6]
        self.forth.append(self.kept())
        self.put_back(self.back.pop())
        return [len(self.back)]

    def redo(self):
        if not self.forth:
            return [-6]
        self.back.append(self.kept())
        self.put_back(self.forth.pop())
        return [len(self.forth)]

    def put(self, tree):
        def does():
            if len(self.shelf) == 16:
                raise Refused(-28)
            self.shelf.append(tree)
            return len(self.shelf) - 1
        return self.change(does)

    def lacks(self, *numbers):
        return any(number >= len(self.shelf) for number in numbers)

    def read(self, text):
        tree = parse(text)
        return self.put(tree) if tree else [-71]

    def write(self, c):
        return [-2] if self.lacks(c) else [len(show(self.shelf[c]))] + raw(show(self.shelf[c]))

    def about(self, c):
        return [-2] if self.lacks(c) else model_about(self.shelf[c])

    def tidy(self, c):
        return [-2] if self.lacks(c) else self.put(model_tidy(self.shelf[c]))

    def same(self, c, d):
        return [-2] if self.lacks(c, d) else [int(self.shelf[c] == self.shelf[d])]

    def make(self, kind, a, b, x):
        if self.lacks(a) or kind in (BOTH, OR) and self.lacks(b):
            return [-2]
        if kind > ANY or kind == TIMES and abs(x) > 999999999 or kind in (AT, ANY) and not 0 <= x <= 1000:
            return [-22]
        first = self.shelf[a]
        tree = {
            BOTH: lambda: ("both", first, self.shelf[b]), OR: lambda: ("or", first, self.shelf[b]),
            TURN: lambda: ("turn", first), TIMES: lambda: ("times", (str(x),), first),
            AT: lambda: ("at", (str(x),), first), ANY: lambda: ("any", (str(x),), first),
        }[kind]()
        return [-33] if len(show(tree)) > 600 else self.put(tree)

    def trial(self, c, day, values):
        if self.lacks(c):
            return [-2]
        if day > 1000 or max(map(abs, values)) > 10 ** 6:
            return [-22]
        if not model_about(self.shelf[c])[3]:
            return [-33]
        paid = model_trial(self.shelf[c], 1, day, values)
        if len(paid) > 400 or any(abs(much) > 10 ** 12 for day, unit, much in paid):
            return [-75]
        return [len(paid)] + [number for payment in paid for number in payment]

    def sign(self, holder, other, c):
        if self.lacks(c):
            return [-2]
        if holder >= self.n or other >= self.n or holder == other:
            return [-22]
        if len(self.deals) == 16:
            return [-28]

        def does():
            self.deals.append([0, holder, other, self.today])
            self.work((None, len(self.deals) - 1, holder, other, 1, self.shelf[c]))
            self.bounded()
            return len(self.deals) - 1
        return self.change(does)

    def deal(self, k):
        if k >= len(self.deals):
            return [-2]
        return self.deals[k] + [sum(item[1] == k for item in self.open)]

    def items(self):
        return [len(self.open)] + [item[0] for item in self.open]

    def item(self, i):
        for number, deal, holder, other, k, tree in self.open:
            if number == i:
                return [deal, holder, other, k] + raw(show(tree))
        return [-2]

    def see(self, o, value):
        if o > 7 or abs(value) > 10 ** 6:
            return [-22]
        if o in self.seen:
            return [-17]

        def does():
            self.seen[o] = value
            self.work_all()
            return 0
        return self.change(does)

    def choose(self, who, i, which):
        return self.chosen("or", who, i, which, 1 + which)

    def take(self, who, i):
        return self.chosen("any", who, i, 0, 2)

    def chosen(self, word, who, i, which, place):
        for item in self.open:
            if item[0] == i:
                if item[5][0] != word:
                    return [-16]
                if item[2] != who:
                    return [-1]
                if which > 1:
                    return [-22]

                def does():
                    self.open.remove(item)
                    self.work((None,) + item[1:5] + (item[5][place],))
                    self.bounded()
                    return 0
                return self.change(does)
        return [-2]

    def close(self):
        if self.today == 1000:
            return [-28]

        def does():
            while any(item[5][0] == "or" for item in self.open):
                self.open = [(None,) + item[1:5] + (item[5][1],) if item[5][0] == "or" else item for item in self.open]
                self.work_all()
            if self.awaited():
                raise Refused(-61)
            self.today += 1
            self.seen = {}
            self.work_all()
            return self.today
        return self.change(does)

    def awaited(self):
        measured = [item[5][{"times": 1, "if": 1, "when": 2}[item[5][0]]] for item in self.open
                    if item[5][0] in ("times", "if", "when")]
        return {name for tree in measured for name in names_in(tree)} - set(self.seen)

    def day(self):
        return [self.today, sum(1 << name for name in self.awaited()), len(self.back), len(self.forth)]

    def pays(self):
        return [len(self.paid)]

    def pay(self, k):
        return list(self.paid[k]) if k < len(self.paid) else [-2]

    def gained(self, party, paid):
        return [sum(much * ((party == taker) - (party == giver)) for day, deal, giver, taker, booked, much in paid
                    if booked == unit) for unit in range(4)]

    def balance(self, p):
        return [-22] if p >= self.n else [0] + self.gained(p, self.paid)

    def net(self, day):
        if day > self.today:
            return [-22]
        paid = [payment for payment in self.paid if payment[0] == day]
        return [0] + [gain for party in range(self.n) for gain in self.gained(party, paid)]

    def assign(self, who, k, to):
        if k >= len(self.deals):
            return [-2]
        over, holder, other, day = self.deals[k]
        for number, holds in ((-22, to >= self.n), (-1, who not in (holder, other)), (-17, to in (holder, other)),
                              (-16, over)):
            if holds:
                return [number]

        def does():
            swap = {who: to}
            self.deals[k] = [0, swap.get(holder, holder), swap.get(other, other), day]
            self.open = [
                item if item[1] != k else item[:2] + (swap.get(item[2], item[2]), swap.get(item[3], item[3])) + item[4:]
                for item in self.open]
            self.wants = [want for want in self.wants if want[0] != k]
            return 0
        return self.change(does)

    def cancel(self, who, k):
        if k >= len(self.deals):
            return [-2]
        over, holder, other, day = self.deals[k]
        for number, holds in ((-1, who not in (holder, other)), (-16, over), (-17, (k, who) in self.wants)):
            if holds:
                return [number]

        def does():
            self.wants.append((k, who))
            if (k, holder) in self.wants and (k, other) in self.wants:
                self.deals[k] = [1, holder, other, day]
                self.open = [item for item in self.open if item[1] != k]
                return 1
            return 0
        return self.change(does)

    def bounded(self):
        if len(self.open) > 48 or len(self.paid) > 400:
            raise Refused(-75)

    def work_all(self):
        todo, self.open = self.open, []
        for item in todo:
            self.work(item)
        self.open.sort(key=lambda item: item[0])
        self.bounded()

    def sees(self, tree):
        return all(name in self.seen for name in names_in(tree))

    def worth(self, tree):
        return value_of(tree, [self.seen.get(name, 0) for name in range(8)])

    def work(self, item):
        number, deal, holder, other, k, tree = item
        if abs(k) > 10 ** 12:
            raise Refused(-75)
        word, parts = tree[0], tree[1:]
        day = int(parts[0][0]) if word in ("at", "when", "any") else 1000
        if word == "nothing" or self.today > day:
            return
        if word == "one":
            giver, taker = (holder, other) if k < 0 else (other, holder)
            if k:
                self.paid.append((self.today, deal, giver, taker, "ABCD".index(parts[0][0]), abs(k)))
        elif word == "both":
            self.work((None, deal, holder, other, k, parts[0]))
            self.work((None, deal, holder, other, k, parts[1]))
        elif word == "turn":
            self.work((None, deal, other, holder, k, parts[0]))
        elif word == "times" and self.sees(parts[0]):
            self.work((None, deal, holder, other, k * self.worth(parts[0]), parts[1]))
        elif word == "if" and self.sees(parts[0]):
            self.work((None, deal, holder, other, k, parts[1 if self.worth(parts[0]) else 2]))
        elif word == "at" and self.today == day:
            self.work((None, deal, holder, other, k, parts[1]))
        elif word == "when" and self.sees(parts[1]) and self.worth(parts[1]):
            self.work((None, deal, holder, other, k, parts[2]))
        else:
            if number is None:
                self.given += 1
                number = self.given
            self.open.append((number, deal, holder, other, k, tree))
