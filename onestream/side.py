"""What one side keeps of the stream and of all its exchanges."""

from onestream.exchange import Exchange
from onestream.frames import OF_ALL, credit_frame

CREDIT_OF_ALL_AT_FIRST = 65536
OWED_OF_ALL_MOST = 32768


class Side:
    def __init__(self, which):
        self.which = which
        self.dead = False
        self.going = False
        self.other_going = False
        self.exchanges = {}
        # The next number of ours, and the next of the other's, that was not asked yet.
        self.to_ask = which
        self.to_come = 3 - which
        # Whose turn was last; 0 stands before every number, so the least has the first turn.
        self.turn = 0
        # The frames that are to be sent ahead of data, the oldest first.
        self.first = []
        # The bytes that came of a frame that isn't whole yet.
        self.unread = []
        self.credit = CREDIT_OF_ALL_AT_FIRST
        self.left = CREDIT_OF_ALL_AT_FIRST
        self.owed = 0

    def add_exchange(self, number):
        self.exchanges[number] = Exchange()

    def is_ours(self, number):
        return number % 2 == self.which % 2

    def ours_there(self):
        return len([number for number in self.exchanges if self.is_ours(number)])

    def theirs_there(self):
        return len(self.exchanges) - self.ours_there()

    def is_or_was(self, number):
        return number < (self.to_ask if self.is_ours(number) else self.to_come)

    def greatest_that_came(self):
        return max(self.to_come - 2, 0)

    def give_back(self, size):
        self.owed += size
        if self.owed >= OWED_OF_ALL_MOST:
            self.left += self.owed
            self.first.append(credit_frame(OF_ALL, self.owed))
            self.owed = 0

    # What nobody can take any more must be given back, or the credit of all would dry up.
    def lose(self, number):
        lost = self.exchanges.pop(number)
        self.give_back(len(lost.untaken))

    def drop_if_done(self, number):
        if self.exchanges[number].nothing_to_do():
            self.exchanges.pop(number)

    def drop_done(self):
        for number in list(self.exchanges):
            self.drop_if_done(number)

    # The frames that were to be sent never will be, so they don't count any more either.
    def die(self):
        self.dead = True
        self.exchanges = {}
        self.first = []
        self.unread = []
