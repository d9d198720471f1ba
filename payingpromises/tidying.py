"""Promises made shorter that pay the same."""

from payingpromises.bounds import is_short
from payingpromises.counting import combined
from payingpromises.parts import inner_first, joined, number_part
from payingpromises.words import AMOUNTS

# Had of nothing these are nothing; what they have stands last in them.
HOLLOW = ("turn", "times", "at", "when", "any")


def tidied(promise):
    """The promise tidied from within."""
    done = []
    for part in inner_first(promise):
        if len(part.parts) == 0:
            done.append(part)
        else:
            start = len(done) - len(part.parts)
            parts = tuple(done[start:])
            done = done[:start]
            done.append(tidied_one(part.word, parts))
    return done.pop()


def tidied_one(word, parts):
    """What begins with this word and has these parts, which are tidied themselves."""
    if word in AMOUNTS:
        return tidied_amount(word, parts)
    if word == "not" and parts[0].word == "not":
        return parts[0].parts[0]
    if word == "both":
        return tidied_both(parts)
    if word == "or" and is_nothing(parts[0]) and is_nothing(parts[1]):
        return parts[0]
    if word in HOLLOW and is_nothing(parts[-1]):
        return parts[-1]
    if word == "turn" and parts[0].word == "turn":
        return parts[0].parts[0]
    if word == "times":
        return tidied_times(parts)
    if word == "if" and parts[1].text == parts[2].text:
        return parts[1]
    if word == "at" and parts[1].word == "at" and parts[1].parts[0].value < parts[0].value:
        return joined("nothing", ())
    return joined(word, parts)


def is_nothing(promise):
    return promise.word == "nothing"


def tidied_amount(word, parts):
    # A part that is too long for a number has stayed as it is, and so must what it stands in.
    if parts[0].word == "number" and parts[1].word == "number":
        number = combined(word, parts[0].value, parts[1].value)
        if is_short(number):
            return number_part(number)
    return joined(word, parts)


def tidied_both(parts):
    if is_nothing(parts[0]):
        return parts[1]
    if is_nothing(parts[1]):
        return parts[0]
    return joined("both", parts)


def tidied_times(parts):
    if parts[0].text == "0":
        return joined("nothing", ())
    if parts[0].text == "1":
        return parts[1]
    return joined("times", parts)
