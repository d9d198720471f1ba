"""What a plain promise pays if the same values are seen on all days."""

from payingpromises.amounts import result_of


class Having:
    """A promise that is had on some day, so many times."""

    def __init__(self, promise, times, day):
        self.promise = promise
        self.times = times
        self.day = day


def tried(promise, day, worths):
    """Its payments, each its day, its unit and how much, in the order in which it tells them."""
    todo = [Having(promise, 1, day)]
    payments = []
    while len(todo) > 0:
        having = todo.pop()
        if having.promise.word != "one":
            todo.extend(list(reversed(comes_of(having, worths))))
        elif having.times != 0:
            payments.append((having.day, having.promise.parts[0].value, having.times))
    return payments


def comes_of(having, worths):
    """What is had next, in order."""
    word = having.promise.word
    parts = having.promise.parts
    times = having.times
    day = having.day
    if word == "both":
        return [Having(parts[0], times, day), Having(parts[1], times, day)]
    if word == "turn":
        return [Having(parts[0], -times, day)]
    if word == "times":
        return [Having(parts[1], times * result_of(parts[0], worths), day)]
    if word == "if":
        return [Having(parts[1] if result_of(parts[0], worths) else parts[2], times, day)]
    if word == "at" and day <= parts[0].value:
        return [Having(parts[1], times, parts[0].value)]
    # With the same values on all days the condition holds on the first one or never.
    if word == "when" and day <= parts[0].value and result_of(parts[1], worths):
        return [Having(parts[2], times, day)]
    return []
