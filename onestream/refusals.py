"""The refusals: what a call answers when it leaves all as it was."""

BAD_ARGUMENT = 1
NOT_THERE = 2
DONE_BEFORE = 4
NO_ROOM = 5
NO_MORE = 6


# A refusal is a number below 0 alone.
def refused(why):
    return [-why]
