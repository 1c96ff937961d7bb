"""The call came: what each frame of the other side does, and what is told of it."""

from onestream.frames import CREDIT, DATA, HEAD_SIZE, OF_ALL, STILL, STILL_ASKED, STOPPED, still_frame, stopped_frame
from onestream.reading import RIGHT, behind_frame, head_at, wrong_frame, wrong_head
from onestream.refusals import NO_MORE, refused

# What is wrong with a frame that is one, behind the two wrongs of reading.
NEVER_WAS = 3
MORE_THAN_LEFT = 4
TOO_MUCH_CREDIT = 5
BEHIND_LAST = 6

TOLD_ASKED = 1
TOLD_BYTES = 2
TOLD_LAST = 3
TOLD_STOPPED = 4
TOLD_GOING = 5
TOLD_STILL = 6
TOLD_WRONG = 7

THEIRS_MOST = 64
ANEW_MOST = 64
CREDIT_MOST = 2147483647

WHY_GOING = 1
WHY_FULL = 2
WHY_NOT_TAKEN = 4294967295


def came(side, what):
    if side.dead:
        return refused(NO_MORE)
    side.unread.extend(what)
    told = []
    wrong = read_frames(side, told)
    if wrong != RIGHT:
        side.die()
        told.append([TOLD_WRONG, wrong])
    answer = [len(told)]
    for thing in told:
        answer.extend(thing)
    return answer


# What's wrong is given back, not raised, for what was told ahead of it stays told.
def read_frames(side, told):
    at = 0
    frame = head_at(side.unread, at)
    while frame is not None:
        wrong = wrong_head(frame)
        if wrong != RIGHT:
            return wrong
        behind = behind_frame(frame, at)
        if behind > len(side.unread):
            break
        frame.body = side.unread[at + HEAD_SIZE:behind]
        wrong = meet(side, frame, told)
        if wrong != RIGHT:
            return wrong
        at = behind
        frame = head_at(side.unread, at)
    side.unread = side.unread[at:]
    return RIGHT


def meet(side, frame, told):
    wrong = wrong_frame(frame)
    if wrong != RIGHT:
        return wrong
    if frame.kind == DATA:
        return meet_data(side, frame, told)
    if frame.kind == CREDIT:
        return meet_credit(side, frame)
    if frame.kind == STOPPED:
        return meet_stopped(side, frame, told)
    if frame.kind == STILL_ASKED:
        side.first.append(still_frame(frame.body_number()))
    elif frame.kind == STILL:
        told.append([TOLD_STILL, frame.body_number()])
    else:
        meet_going(side, frame.body_number(), told)
    return RIGHT


def meet_data(side, frame, told):
    wrong = make_known(side, frame.number, told)
    if wrong != RIGHT:
        return wrong
    exchange = side.exchanges.get(frame.number)
    if exchange is None:
        return data_for_nothing(side, frame.size)
    if exchange.last_came:
        return BEHIND_LAST
    if frame.size > exchange.left or frame.size > side.left:
        return MORE_THAN_LEFT
    exchange.left -= frame.size
    side.left -= frame.size
    exchange.untaken.extend(frame.body)
    if frame.size > 0:
        told.append([TOLD_BYTES, frame.number, frame.size])
    if frame.flags == 1:
        exchange.last_came = True
        told.append([TOLD_LAST, frame.number])
    return RIGHT


# The other side spent its credit of all on these, too.
def data_for_nothing(side, size):
    if size > side.left:
        return MORE_THAN_LEFT
    side.left -= size
    side.give_back(size)
    return RIGHT


def meet_credit(side, frame):
    if frame.number == OF_ALL:
        return add_credit(side, frame.body_number())
    if frame.number in side.exchanges:
        return add_credit(side.exchanges[frame.number], frame.body_number())
    return RIGHT if side.is_or_was(frame.number) else NEVER_WAS


# A side and an exchange both have a credit.
def add_credit(holder, more):
    if holder.credit + more > CREDIT_MOST:
        return TOO_MUCH_CREDIT
    holder.credit += more
    return RIGHT


def meet_stopped(side, frame, told):
    wrong = make_known(side, frame.number, told)
    if wrong != RIGHT:
        return wrong
    if frame.number in side.exchanges:
        side.lose(frame.number)
        told.append([TOLD_STOPPED, frame.number, frame.body_number()])
    return RIGHT


def meet_going(side, greatest, told):
    side.other_going = True
    told.append([TOLD_GOING, greatest])
    lost = [number for number in sorted(side.exchanges) if side.is_ours(number) and number > greatest]
    for number in lost:
        side.lose(number)
        told.append([TOLD_STOPPED, number, WHY_NOT_TAKEN])


# Data or a stop may be the first that's heard of an exchange.
def make_known(side, number, told):
    if side.is_or_was(number):
        return RIGHT
    if side.is_ours(number) or how_many_anew(side, number) > ANEW_MOST:
        return NEVER_WAS
    ask_anew(side, number, told)
    return RIGHT


def how_many_anew(side, number):
    return (number - side.to_come) // 2 + 1


def ask_anew(side, number, told):
    room = 0 if side.going else THEIRS_MOST - side.theirs_there()
    why = WHY_GOING if side.going else WHY_FULL
    for place in range(how_many_anew(side, number)):
        anew = side.to_come + 2 * place
        if place < room:
            side.add_exchange(anew)
            told.append([TOLD_ASKED, anew])
        else:
            side.first.append(stopped_frame(anew, why))
    side.to_come = number + 2
