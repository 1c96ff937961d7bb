"""What one side keeps of one exchange."""

CREDIT_AT_FIRST = 16384


class Exchange:
    def __init__(self):
        # What goes out.
        self.waiting = []
        self.ended = False
        self.last_sent = False
        self.credit = CREDIT_AT_FIRST
        # What came in.
        self.untaken = []
        self.last_came = False
        self.end_told = False
        self.left = CREDIT_AT_FIRST
        self.owed = 0

    def all_came(self):
        return self.last_came and len(self.untaken) == 0

    def nothing_to_do(self):
        return self.last_sent and self.end_told
