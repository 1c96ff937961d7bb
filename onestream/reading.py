"""How frames are read: when one is whole, and what makes it none."""

from onestream.frames import CREDIT, DATA, HEAD_SIZE, OF_ALL, STOPPED

BODY_MOST = 4096

# What is wrong with a frame; 0 stands for nothing.
RIGHT = 0
TOO_LONG = 1
NO_FRAME = 2

# How long a body is, of each kind but data (whose body has any length).
BODY_SIZES = {2: 4, 3: 4, 4: 8, 5: 8, 6: 4}


class Frame:
    def __init__(self, head):
        self.size = number_of(head[0:2])
        self.kind = head[2]
        self.flags = head[3]
        self.number = number_of(head[4:8])
        self.body = []

    # Of every kind but data the body is one number.
    def body_number(self):
        return number_of(self.body)


def number_of(row):
    value = 0
    for byte in row:
        value = value * 256 + byte
    return value


# Seen without the body, so that nothing is waited for that can't come right.
def wrong_head(frame):
    if frame.size > BODY_MOST:
        return TOO_LONG
    if frame.flags > 1:
        return NO_FRAME
    return RIGHT


def wrong_frame(frame):
    return RIGHT if is_frame(frame) else NO_FRAME


def is_frame(frame):
    if frame.kind == DATA:
        return frame.number != OF_ALL
    if frame.kind not in BODY_SIZES or frame.size != BODY_SIZES[frame.kind]:
        return False
    return frame.flags == 0 and number_fits(frame)


def number_fits(frame):
    if frame.kind == STOPPED:
        return frame.number != OF_ALL
    # Credit alone may be of one and of all.
    return frame.kind == CREDIT or frame.number == OF_ALL


# None as long as the head isn't whole, for nothing can be seen of it then.
def head_at(unread, at):
    if len(unread) - at < HEAD_SIZE:
        return None
    return Frame(unread[at:at + HEAD_SIZE])


def behind_frame(frame, at):
    return at + HEAD_SIZE + frame.size
