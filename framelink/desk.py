"""The desk: takes a list of calls on one end, and gives back the list of their answers."""

from framelink.counts import Counts
from framelink.end import open_end
from framelink.frames import answer_make, answer_read
from framelink.refusals import WRONG

OPEN = 1
WEIGHT = 2
PUT = 3
NEXT = 4
WENT = 5
CAME = 6
JOIN = 7
LEAVE = 8
HEAR = 9
WAITS = 10
DROP = 11
COUNTS = 12
MAKE = 13
READ = 14

# By a call's number: how many whole numbers it has, and how many rows behind them.
FORMS = {
    1: (6, 1),
    2: (2, 0),
    3: (3, 2),
    4: (1, 0),
    5: (2, 0),
    6: (0, 1),
    7: (0, 1),
    8: (0, 1),
    9: (1, 0),
    10: (2, 0),
    11: (1, 0),
    12: (0, 0),
    13: (1, 3),
    14: (0, 1),
    15: (1, 0),
}


class Desk:
    """A list of calls, how far it has been read, and the end it is about (None: not open)."""

    def __init__(self, calls):
        self.calls = calls
        self.place = 0
        self.end = None

    def is_done(self):
        return self.place >= len(self.calls)

    def take_number(self):
        number = self.calls[self.place]
        self.place += 1
        return number

    def take_row(self):
        length = self.take_number()
        start = self.place
        self.place += length
        return self.calls[start:self.place]

    def take_given(self, call):
        """What is handed over with the call: its whole numbers, then its rows."""
        form = FORMS[call]
        given = []
        for k in range(form[0]):
            given.append(self.take_number())
        for k in range(form[1]):
            given.append(self.take_row())
        return given

    def answer_call(self):
        call = self.take_number()
        given = self.take_given(call)
        if call == OPEN:
            return self.answer_opening(given)
        if call == COUNTS:
            return self.answer_counts()
        if call == MAKE:
            return answer_make(given[0], given[1], given[2], given[3])
        if call == READ:
            return answer_read(given[0])
        if self.end is None:
            return [WRONG]
        return answer_at(self.end, call, given)

    def answer_opening(self, given):
        end = open_end(given[0], given[1], given[2], given[3], given[4], given[5], given[6])
        # A refused opening leaves the end that was there as it was.
        if end is None:
            return [WRONG]
        self.end = end
        return [0]

    def answer_counts(self):
        # Ahead of the first opening nothing has happened yet, and that is told too.
        counts = Counts() if self.end is None else self.end.counts
        return [0] + counts.in_order()


def answer_at(end, call, given):
    """What an end that is open answers to a call that needs one."""
    if call == WEIGHT:
        return end.set_weight(given[0], given[1])
    if call == PUT:
        return end.put(given[0], given[1], given[2], given[3], given[4])
    if call == NEXT:
        return end.hand_out(given[0])
    if call == WENT:
        return end.went(given[0], given[1])
    if call == CAME:
        return end.came(given[0])
    if call == JOIN:
        return end.join_group(given[0])
    if call == LEAVE:
        return end.leave_group(given[0])
    if call == HEAR:
        return end.hear(given[0])
    if call == WAITS:
        return end.waits(given[0], given[1])
    if call == DROP:
        return end.drop(given[0])
    # Only due is left: FORMS has no other call.
    return end.due(given[0])


def answers(calls):
    """For each call, in order: how many numbers are answered, then these."""
    desk = Desk(calls)
    told = []
    while not desk.is_done():
        answer = desk.answer_call()
        told.append(len(answer))
        told.extend(answer)
    return told
