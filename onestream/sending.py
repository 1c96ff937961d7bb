"""The call out: first the frames that are to be sent, then data by turns."""

from onestream.frames import HEAD_SIZE, data_frame

OUT_MOST = 1048576
PIECE_MOST = 1024

# No exchange has this number.
NOBODY = 0


def out(side, most):
    if side.dead:
        return [0]
    room = min(most, OUT_MOST)
    sent = send_first(side, room)
    # A frame that has no room yet is still ahead of all data.
    if len(side.first) == 0:
        sent.extend(send_data(side, room - len(sent)))
    side.drop_done()
    return [len(sent)] + sent


def send_first(side, room):
    sent = []
    done = 0
    while done < len(side.first) and len(sent) + len(side.first[done]) <= room:
        sent.extend(side.first[done])
        done += 1
    side.first = side.first[done:]
    return sent


def send_data(side, room):
    sent = []
    number = whose_turn(side, room)
    while number != NOBODY:
        sent.extend(send_piece(side, number, room - len(sent)))
        number = whose_turn(side, room - len(sent))
    return sent


def whose_turn(side, room):
    numbers = sorted(side.exchanges)
    behind = [number for number in numbers if number > side.turn]
    before = [number for number in numbers if number <= side.turn]
    for number in behind + before:
        if can_send(side, side.exchanges[number], room):
            return number
    return NOBODY


def can_send(side, exchange, room):
    if len(exchange.waiting) > 0:
        return piece_size(side, exchange, room) > 0
    return exchange.ended and not exchange.last_sent and room >= HEAD_SIZE


def piece_size(side, exchange, room):
    return min(len(exchange.waiting), PIECE_MOST, exchange.credit, side.credit, room - HEAD_SIZE)


def send_piece(side, number, room):
    exchange = side.exchanges[number]
    size = piece_size(side, exchange, room)
    piece = exchange.waiting[:size]
    exchange.waiting = exchange.waiting[size:]
    exchange.credit -= size
    side.credit -= size
    exchange.last_sent = exchange.ended and len(exchange.waiting) == 0
    side.turn = number
    return data_frame(number, exchange.last_sent, piece)
