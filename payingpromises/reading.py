"""From bytes to a promise, and back."""

from payingpromises.bounds import MOST_BYTES, MOST_DIGITS, is_day
from payingpromises.parts import day_part, joined, name_part, number_part, unit_part
from payingpromises.words import NAMES, UNITS, parts_wanted

SIGNS = "(),-0123456789ABCDabcdefghijklmnopqrstuvwxyz"
MARKS = ("(", ",", ")")


class Frame:
    """A word whose parts are still being read."""

    def __init__(self, word, wanted):
        self.word = word
        self.wanted = wanted
        self.parts = []


class Reader:
    """How far reading has come.

    wanted: what must come now, the sort of a part or "("; "" once a part has just been read.
    whole: the promise, once all of it is read.
    """

    def __init__(self):
        self.frames = []
        self.wanted = "c"
        self.whole = None


def read_promise(numbers):
    """The promise that these bytes are the text of, or None."""
    if len(numbers) > MOST_BYTES:
        return None
    text = text_from(numbers)
    if text is None:
        return None
    reader = Reader()
    for piece in pieces_of(text):
        if not take_piece(reader, piece):
            return None
    return reader.whole


def bytes_of(promise):
    return [ord(sign) for sign in promise.text]


def text_from(numbers):
    """The text of these bytes, or None if one of them stands in no promise."""
    signs = dict([(ord(sign), sign) for sign in SIGNS])
    known = [signs[number] for number in numbers if number in signs]
    if len(known) < len(numbers):
        return None
    return "".join(known)


def pieces_of(text):
    """The text cut into marks and what stands between them."""
    pieces = []
    start = 0
    for place, sign in enumerate(text):
        if sign in MARKS:
            if start < place:
                pieces.append(text[start:place])
            pieces.append(sign)
            start = place + 1
    if start < len(text):
        pieces.append(text[start:])
    return pieces


def take_piece(reader, piece):
    """Reads one piece more; False if it can't stand there."""
    if reader.wanted == "":
        return take_mark(reader, piece)
    if reader.wanted == "(":
        reader.wanted = reader.frames[-1].wanted[0]
        return piece == "("
    wanted = parts_wanted(reader.wanted, piece)
    if wanted != "":
        reader.frames.append(Frame(piece, wanted))
        reader.wanted = "("
        return True
    part = single_part(reader.wanted, piece)
    if part is None:
        return False
    add_part(reader, part)
    return True


def take_mark(reader, piece):
    """Reads what stands behind a part: a comma if its word wants one more, else a bracket."""
    if len(reader.frames) == 0:
        return False
    frame = reader.frames[-1]
    have = len(frame.parts)
    if have < len(frame.wanted):
        reader.wanted = frame.wanted[have]
        return piece == ","
    if piece != ")":
        return False
    reader.frames.pop()
    add_part(reader, joined(frame.word, tuple(frame.parts)))
    return True


def add_part(reader, part):
    reader.wanted = ""
    if len(reader.frames) == 0:
        reader.whole = part
    else:
        reader.frames[-1].parts.append(part)


def single_part(sort, piece):
    """The part of this sort that is one piece alone, or None."""
    if sort == "c" and piece == "nothing":
        return joined("nothing", ())
    if sort == "u" and piece in UNITS:
        return unit_part(UNITS.index(piece))
    if sort == "x" and piece in NAMES:
        return name_part(NAMES.index(piece))
    if sort == "x" and is_number(piece):
        return number_part(int(piece))
    if sort == "d" and is_number(piece) and is_day(int(piece)):
        return day_part(int(piece))
    return None


def is_number(piece):
    """Whether it is a number without needless zeros and of few enough digits."""
    digits = piece[1:] if piece.startswith("-") else piece
    if not digits.isdigit() or len(digits) > MOST_DIGITS:
        return False
    return piece == "0" or not digits.startswith("0")
