"""What amounts come to, and whether conditions hold."""

from payingpromises.counting import combined
from payingpromises.parts import inner_first


def result_of(whole, worths):
    """An amount's number, or whether a condition holds, with these values under the eight names."""
    results = []
    for part in inner_first(whole):
        if part.word == "number":
            results.append(part.value)
        elif part.word == "name":
            results.append(worths[part.value])
        elif part.word == "not":
            results.append(not results.pop())
        else:
            second = results.pop()
            first = results.pop()
            results.append(combined(part.word, first, second))
    return results.pop()
