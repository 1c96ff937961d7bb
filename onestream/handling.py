"""The calls that handle one exchange: ask, put, take, stop, look."""

from onestream.frames import credit_frame, stopped_frame
from onestream.refusals import BAD_ARGUMENT, NO_MORE, NO_ROOM, NOT_THERE, refused

NUMBERS_BELOW = 4294967296
WHYS_BELOW = 4294967296
OURS_MOST = 64
WAITING_MOST = 65536
OWED_MOST = 8192


def ask(side):
    if side.dead or side.other_going or side.to_ask >= NUMBERS_BELOW:
        return refused(NO_MORE)
    if side.ours_there() >= OURS_MOST:
        return refused(NO_ROOM)
    number = side.to_ask
    # The numbers between are the other side's.
    side.to_ask += 2
    side.add_exchange(number)
    return [number]


def put(side, number, last, what):
    if last > 1:
        return refused(BAD_ARGUMENT)
    exchange = side.exchanges.get(number)
    if exchange is None:
        return refused(NOT_THERE)
    if exchange.ended:
        return refused(NO_MORE)
    if len(exchange.waiting) + len(what) > WAITING_MOST:
        return refused(NO_ROOM)
    exchange.waiting.extend(what)
    exchange.ended = last == 1
    return [len(exchange.waiting)]


def take(side, number, most):
    exchange = side.exchanges.get(number)
    if exchange is None:
        return refused(NOT_THERE)
    size = min(most, len(exchange.untaken))
    taken = exchange.untaken[:size]
    exchange.untaken = exchange.untaken[size:]
    owe(side, number, size)
    side.give_back(size)
    end = exchange.all_came()
    if end:
        exchange.end_told = True
    side.drop_if_done(number)
    return [size, 1 if end else 0] + taken


def owe(side, number, size):
    exchange = side.exchanges[number]
    exchange.owed += size
    # Behind the last nothing more comes, so more credit would be of no use.
    if exchange.owed >= OWED_MOST and not exchange.last_came:
        exchange.left += exchange.owed
        side.first.append(credit_frame(number, exchange.owed))
        exchange.owed = 0


def stop(side, number, why):
    if why >= WHYS_BELOW:
        return refused(BAD_ARGUMENT)
    if number not in side.exchanges:
        return refused(NOT_THERE)
    side.lose(number)
    side.first.append(stopped_frame(number, why))
    return [0]


def look(side, number):
    exchange = side.exchanges.get(number)
    if exchange is None:
        return refused(NOT_THERE)
    last_came = 1 if exchange.last_came else 0
    return [0, len(exchange.waiting), how_far_ended(exchange), exchange.credit, len(exchange.untaken), last_came,
            exchange.left]


def how_far_ended(exchange):
    if exchange.last_sent:
        return 2
    return 1 if exchange.ended else 0
