"""The desk: takes a list of calls on one end, and gives back the list of their answers."""

from framelink.end import WRONG, open_end

OPEN = 1
WEIGHT = 2
PUT = 3
NEXT = 4
WENT = 5
CAME = 6
JOIN = 7

# By a call's number: how many whole numbers it has, and how many rows behind them.
FORMS = {
    1: (6, 1),
    2: (2, 0),
    3: (3, 2),
    4: (1, 0),
    5: (2, 0),
    6: (0, 1),
    7: (0, 1),
    8: (0, 1),
}


class Desk:
    """A list of calls, how far it has been read, and the end it is about (None: not open)."""

    def __init__(self, calls):
        self.calls = calls
        self.place = 0
        self.end = None

    def is_done(self):
        return self.place >= len(self.calls)

    def take_number(self):
        number = self.calls[self.place]
        self.place += 1
        return number

    def take_row(self):
        length = self.take_number()
        start = self.place
        self.place += length
        return self.calls[start:self.place]

    def take_given(self, call):
        """What is handed over with the call: its whole numbers, then its rows."""
        form = FORMS[call]
        given = []
        for k in range(form[0]):
            given.append(self.take_number())
        for k in range(form[1]):
            given.append(self.take_row())
        return given

    def answer_call(self):
        call = self.take_number()
        given = self.take_given(call)
        if call == OPEN:
            return self.answer_opening(given)
        if self.end is None:
            return [WRONG]
        return answer_at(self.end, call, given)

    def answer_opening(self, given):
        end = open_end(given[0], given[1], given[2], given[3], given[4], given[5], given[6])
        # A refused opening leaves the end that was there as it was.
        if end is None:
            return [WRONG]
        self.end = end
        return [0]


def answer_at(end, call, given):
    """What an end that is open answers to a call other than open."""
    if call == WEIGHT:
        return end.set_weight(given[0], given[1])
    if call == PUT:
        return end.put(given[0], given[1], given[2], given[3], given[4])
    if call == NEXT:
        return end.hand_out(given[0])
    if call == WENT:
        return end.went(given[0], given[1])
    if call == CAME:
        return end.came(given[0])
    if call == JOIN:
        return end.join_group(given[0])
    # Only leave is left: FORMS has no other call.
    return end.leave_group(given[0])


def answers(calls):
    """For each call, in order: how many numbers are answered, then these."""
    desk = Desk(calls)
    told = []
    while not desk.is_done():
        answer = desk.answer_call()
        told.append(len(answer))
        told.extend(answer)
    return told
