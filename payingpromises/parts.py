"""Promises and their parts. A part is never changed once it is put together."""

from payingpromises.words import NAMES, PROMISES, UNITS


class Part:
    """A promise, condition, amount, day or unit, and what is told of it.

    value: a number, a day, which name, which unit.
    names: the names that stand in it, as bits. last: the greatest day told in it.
    size: how many promises it has in it, itself too. plain: neither or nor any stands in it.
    """

    def __init__(self, word, parts, text):
        self.word = word
        self.parts = parts
        self.text = text
        self.value = 0
        self.names = 0
        self.last = 0
        self.size = 0
        self.plain = True


def number_part(number):
    part = Part("number", (), str(number))
    part.value = number
    return part


def name_part(name):
    part = Part("name", (), NAMES[name])
    part.value = name
    part.names = 1 << name
    return part


def day_part(day):
    part = Part("day", (), str(day))
    part.value = day
    part.last = day
    return part


def unit_part(unit):
    part = Part("unit", (), UNITS[unit])
    part.value = unit
    return part


def text_of(word, parts):
    if len(parts) == 0:
        return word
    inner = ",".join([part.text for part in parts])
    return f"{word}({inner})"


def joined(word, parts):
    """The promise, condition or amount that begins with this word and has these parts."""
    whole = Part(word, parts, text_of(word, parts))
    for part in parts:
        whole.names = whole.names | part.names
        whole.last = max(whole.last, part.last)
        whole.size = whole.size + part.size
        whole.plain = whole.plain and part.plain
    if word in PROMISES:
        whole.size = whole.size + 1
    if word == "or" or word == "any":
        whole.plain = False
    return whole


def inner_first(whole):
    """All parts of a whole, and it: each behind its own parts, and these in their order."""
    todo = [whole]
    found = []
    while len(todo) > 0:
        part = todo.pop()
        found.append(part)
        todo.extend(part.parts)
    return list(reversed(found))
