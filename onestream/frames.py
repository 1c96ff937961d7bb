"""How frames are written: length, kind, flags, number, body, the highest byte first."""

HEAD_SIZE = 8

DATA = 1
CREDIT = 2
STOPPED = 3

# The number that stands in a frame of all exchanges together.
OF_ALL = 0


def number_bytes(value, size):
    return [(value >> (8 * (size - 1 - place))) & 255 for place in range(size)]


def frame_bytes(kind, flags, number, body):
    return number_bytes(len(body), 2) + [kind, flags] + number_bytes(number, 4) + body


def data_frame(number, last, body):
    return frame_bytes(DATA, 1 if last else 0, number, body)


def credit_frame(number, more):
    return frame_bytes(CREDIT, 0, number, number_bytes(more, 4))


def stopped_frame(number, why):
    return frame_bytes(STOPPED, 0, number, number_bytes(why, 4))
