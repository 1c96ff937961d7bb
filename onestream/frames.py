"""How frames are written: length, kind, flags, number, body, the highest byte first."""

HEAD_SIZE = 8

DATA = 1
CREDIT = 2
STOPPED = 3
STILL_ASKED = 4
STILL = 5
GOING = 6

# The number that stands in a frame of all exchanges together.
OF_ALL = 0


def number_bytes(value, size):
    return [(value >> (8 * (size - 1 - place))) & 255 for place in range(size)]


def frame_bytes(kind, flags, number, body):
    return number_bytes(len(body), 2) + [kind, flags] + number_bytes(number, 4) + body


def data_frame(number, last, body):
    return frame_bytes(DATA, 1 if last else 0, number, body)


def credit_frame(number, more):
    return frame_bytes(CREDIT, 0, number, number_bytes(more, 4))


def stopped_frame(number, why):
    return frame_bytes(STOPPED, 0, number, number_bytes(why, 4))


def still_asked_frame(token):
    return frame_bytes(STILL_ASKED, 0, OF_ALL, number_bytes(token, 8))


def still_frame(token):
    return frame_bytes(STILL, 0, OF_ALL, number_bytes(token, 8))


def going_frame(greatest):
    return frame_bytes(GOING, 0, OF_ALL, number_bytes(greatest, 4))
