"""What the words of amounts and conditions make of two results."""


def combined(word, first, second):
    if word == "add":
        return first + second
    if word == "sub":
        return first - second
    if word == "mul":
        return first * second
    if word == "le":
        return first <= second
    if word == "lt":
        return first < second
    if word == "all":
        return first and second
    return first or second
