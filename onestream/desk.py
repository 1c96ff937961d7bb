"""The interface: a list of calls on one new side in, the list of their answers out."""

from onestream.handling import ask, look, put, stop, take
from onestream.receiving import came
from onestream.refusals import BAD_ARGUMENT, refused
from onestream.sending import out
from onestream.side import Side
from onestream.stream import count, over, still

BEGIN = 1
ASK = 2
PUT = 3
TAKE = 4
STOP = 5
OUT = 6
CAME = 7
STILL = 8
OVER = 9
LOOK = 10

# How many whole numbers stand behind a call's own number, ahead of its bytes.
HOW_MANY_NUMBERS = {1: 1, 2: 0, 3: 2, 4: 2, 5: 2, 6: 1, 7: 0, 8: 1, 9: 0, 10: 1, 11: 0}


class Line:
    def __init__(self):
        self.side = Side(1)

    def begin(self, which):
        if which != 1 and which != 2:
            return refused(BAD_ARGUMENT)
        self.side = Side(which)
        return [0]

    def answer(self, call, numbers, what):
        if call == BEGIN:
            return self.begin(numbers[0])
        if call == ASK:
            return ask(self.side)
        if call == PUT:
            return put(self.side, numbers[0], numbers[1], what)
        if call == TAKE:
            return take(self.side, numbers[0], numbers[1])
        if call == STOP:
            return stop(self.side, numbers[0], numbers[1])
        if call == OUT:
            return out(self.side, numbers[0])
        if call == CAME:
            return came(self.side, what)
        if call == STILL:
            return still(self.side, numbers[0])
        if call == OVER:
            return over(self.side)
        if call == LOOK:
            return look(self.side, numbers[0])
        # No call but count is left, 11.
        return count(self.side)


def answers(calls):
    line = Line()
    answered = []
    at = 0
    while at < len(calls):
        call = calls[at]
        behind = at + 1 + HOW_MANY_NUMBERS[call]
        numbers = calls[at + 1:behind]
        what = []
        if call in (PUT, CAME):
            what = calls[behind + 1:behind + 1 + calls[behind]]
            behind = behind + 1 + len(what)
        told = line.answer(call, numbers, what)
        answered.append(len(told))
        answered.extend(told)
        at = behind
    return answered
