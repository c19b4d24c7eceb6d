"""When the card calls the machine: so much is done, or something has waited long enough."""


class Cause:
    def __init__(self, many, late):
        self.many = many
        self.late = late
        self.done_since = 0
        self.ticks_waited = 0

    def count_done(self):
        self.done_since += 1

    def pass_ticks(self, ticks):
        # While nothing is done, nothing waits for the machine.
        if self.done_since > 0:
            self.ticks_waited += ticks

    def is_given(self):
        return self.done_since >= self.many or self.ticks_waited >= self.late

    def begin_anew(self):
        self.done_since = 0
        self.ticks_waited = 0
