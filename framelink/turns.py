"""Whose turn it is among the queues of an end."""

# What a queue's credit grows by in a turn, for each unit of its weight.
SHARE = 256


class Turns:
    """Which queue is on, whether it has got its share in this turn, and the credit of each queue."""

    def __init__(self, on, has_share, credit_of):
        self.on = on
        self.has_share = has_share
        self.credit_of = credit_of

    def trial(self):
        """The same turns once more, for finding out whose turn it will be while these stay as they are."""
        return Turns(self.on, self.has_share, list(self.credit_of))

    def find_turn(self, queues):
        """Moves on to the queue whose turn it is; there is one only if some frame waits."""
        while not self.try_turn(queues[self.on]):
            self.on = (self.on + 1) % len(queues)
            self.has_share = False

    def try_turn(self, queue):
        """Gives the queue that is on what it is due, and tells whether it's its turn."""
        if len(queue.line) == 0:
            self.credit_of[self.on] = 0
            return False
        if not self.has_share:
            self.credit_of[self.on] += SHARE * queue.weight
            self.has_share = True
        return len(queue.line[0].frame) <= self.credit_of[self.on]

    def spend(self, length):
        """A frame of this length has gone from the queue that is on."""
        self.credit_of[self.on] -= length
