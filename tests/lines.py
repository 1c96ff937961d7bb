"""Writes calls as the interface reads them, and reads answers and frames back."""

from onestream.desk import answers
from onestream.handling import ask
from onestream.side import Side

GREATEST = 18446744073709551615
ASK = [2]
OVER = [9]
COUNT = [11]


def begin(which):
    return [1, which]


def put(number, what, last=0):
    return [3, number, last, len(what)] + what


def take(number, most):
    return [4, number, most]


def stop(number, why):
    return [5, number, why]


def out(most):
    return [6, most]


def came(*frames):
    return [7, len(joined(frames))] + joined(frames)


def still(token):
    return [8, token]


def look(number):
    return [10, number]


def joined(rows):
    return [number for row in rows for number in row]


def said(*calls):
    """The answers to these calls, a list for each."""
    flat = joined(calls)
    if len(flat) > 16000 or len(calls) > 1000 or not calls:
        raise AssertionError("the interface allows no such list")
    given = answers(flat)
    rows = []
    at = 0
    while at < len(given):
        rows.append(given[at + 1:at + 1 + given[at]])
        if len(rows[-1]) != given[at] or given[at] < 1:
            raise AssertionError("an answer's count is wrong")
        at += 1 + given[at]
    if len(rows) != len(calls):
        raise AssertionError("not one answer for each call")
    return rows


def frame(kind, flags, number, body):
    """A frame's bytes, written apart from the program; it may be one that is none."""
    return list(len(body).to_bytes(2, "big")) + [kind, flags] + list(number.to_bytes(4, "big")) + body


def data(number, what, last=0):
    return frame(1, last, number, what)


def credit(number, more):
    return frame(2, 0, number, list(more.to_bytes(4, "big")))


def stopped(number, why):
    return frame(3, 0, number, list(why.to_bytes(4, "big")))


def still_asked(token):
    return frame(4, 0, 0, list(token.to_bytes(8, "big")))


def still_answered(token):
    return frame(5, 0, 0, list(token.to_bytes(8, "big")))


def going(number):
    return frame(6, 0, 0, list(number.to_bytes(4, "big")))


def sent(*frames):
    """What out answers when it sends these frames."""
    return [len(joined(frames))] + joined(frames)


def told(*things):
    """What came answers when it tells these things."""
    return [len(things)] + joined(things)


def asked_anew(numbers):
    """What is told of the other's numbers when each is asked anew."""
    return [[1, number] for number in numbers]


def pieces(given):
    """Of each frame in an answer of out: kind, flags, number, the body's length."""
    if given[0] != len(given) - 1:
        raise AssertionError("out's count is wrong")
    rows = []
    at = 1
    while at < len(given):
        size = given[at] * 256 + given[at + 1]
        rows.append((given[at + 2], given[at + 3], int.from_bytes(given[at + 4:at + 8], "big"), size))
        at += 8 + size
    if at != len(given):
        raise AssertionError("a frame is not whole")
    return rows


def side_with(how_many):
    """Side 1, with so many exchanges of its own: 1, 3, 5, ..."""
    side = Side(1)
    for _ in range(how_many):
        ask(side)
    return side


def some_bytes(size, start=0):
    return [(start + place * 7) % 256 for place in range(size)]
