"""Writes calls as the interface reads them, and reads answers and frames back."""

from onestream.desk import answers
from onestream.handling import ask
from onestream.side import Side

GREATEST = 18446744073709551615
ASK = [2]


def begin(which):
    return [1, which]


def put(number, what, last=0):
    return [3, number, last, len(what)] + what


def take(number, most):
    return [4, number, most]


def stop(number, why):
    return [5, number, why]


def out(most):
    return [6, most]


def said(*calls):
    """The answers to these calls, a list for each."""
    flat = [number for call in calls for number in call]
    told = answers(flat)
    rows = []
    while told:
        rows.append(told[1:1 + told[0]])
        if len(rows[-1]) != told[0] or told[0] < 1:
            raise AssertionError("an answer's count is wrong")
        told = told[1 + told[0]:]
    if len(rows) != len(calls):
        raise AssertionError("not one answer for each call")
    return rows


def data(number, what, last=0):
    """A data frame's bytes, written apart from the program."""
    return list(len(what).to_bytes(2, "big")) + [1, last] + list(number.to_bytes(4, "big")) + what


def credit(number, more):
    return [0, 4, 2, 0] + list(number.to_bytes(4, "big")) + list(more.to_bytes(4, "big"))


def stopped(number, why):
    return [0, 4, 3, 0] + list(number.to_bytes(4, "big")) + list(why.to_bytes(4, "big"))


def sent(*frames):
    """What out answers when it sends these frames."""
    whole = [byte for frame in frames for byte in frame]
    return [len(whole)] + whole


def pieces(told):
    """Of each frame in an answer of out: kind, flags, number, the body's length."""
    if told[0] != len(told) - 1:
        raise AssertionError("out's count is wrong")
    rows = []
    at = 1
    while at < len(told):
        size = told[at] * 256 + told[at + 1]
        rows.append((told[at + 2], told[at + 3], int.from_bytes(told[at + 4:at + 8], "big"), size))
        at += 8 + size
    if at != len(told):
        raise AssertionError("a frame is not whole")
    return rows


def side_with(how_many):
    """Side 1, with so many exchanges of its own: 1, 3, 5, ..."""
    side = Side(1)
    for _ in range(how_many):
        ask(side)
    return side


def some_bytes(size, start=0):
    return [(start + place * 7) % 256 for place in range(size)]
