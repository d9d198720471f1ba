"""The words that promises, conditions and amounts are put together of."""

# Behind each word, what parts it has, in order:
# c a promise, p a condition, x an amount, d a day, u a unit.
PROMISES = {
    "nothing": "",
    "one": "u",
    "both": "cc",
    "or": "cc",
    "turn": "c",
    "times": "xc",
    "if": "pcc",
    "at": "dc",
    "when": "dpc",
    "any": "dc",
}
CONDITIONS = {"le": "xx", "lt": "xx", "not": "p", "all": "pp", "some": "pp"}
AMOUNTS = {"add": "xx", "sub": "xx", "mul": "xx"}

UNITS = ("A", "B", "C", "D")
NAMES = ("a", "b", "c", "d", "e", "f", "g", "h")


def parts_wanted(sort, word):
    """What parts a word has where this sort is wanted; "" if it has none or can't stand there."""
    if sort == "c":
        return PROMISES.get(word, "")
    if sort == "p":
        return CONDITIONS.get(word, "")
    if sort == "x":
        return AMOUNTS.get(word, "")
    return ""
