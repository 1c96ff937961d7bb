"""The calls about the stream as a whole: still, over, count."""

from onestream.frames import going_frame, still_asked_frame
from onestream.refusals import BAD_ARGUMENT, DONE_BEFORE, NO_MORE, refused

TOKENS_BELOW = 18446744073709551616


def still(side, token):
    if side.dead:
        return refused(NO_MORE)
    if token >= TOKENS_BELOW:
        return refused(BAD_ARGUMENT)
    side.first.append(still_asked_frame(token))
    return [0]


def over(side):
    if side.dead:
        return refused(NO_MORE)
    if side.going:
        return refused(DONE_BEFORE)
    side.going = True
    side.first.append(going_frame(side.greatest_that_came()))
    return [0]


def count(side):
    return [side.ours_there(), side.theirs_there(), len(side.first), side.credit, side.left]
