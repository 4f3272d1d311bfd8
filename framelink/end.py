"""One end of a link: what waits in its queues, what may go and when, and what it hears.

Each call that an end answers is a method; it gives back the numbers of its answer.
"""

from framelink.frames import (
    LONGEST_BODY,
    body_of,
    is_address,
    is_everybody,
    is_frame,
    is_kind,
    kind_of,
    make_frame,
    sender_of,
    to_of,
)

# The refusals.
WRONG = -1
NOT_THERE = -2
NO_FRAME = -3
NOT_NOW = -4
FULL = -5
TOO_LONG = -7

# What next answers first, but for a refusal.
NOTHING_WAITS = 0
HANDED_OUT = 1
LATER = 2

# What came answers first, but for a refusal.
NOT_FOR_HERE = 0
FOR_HERE = 1

TIME_LIMIT = 0x8000000000000000
MOST_QUEUES = 8
MOST_EACH = 64
LONGEST_LIFE = 3600000
HIGHEST_RATE = 0xFFFFFFFF
LEAST_BURST = 1518
MOST_BURST = 16777216
MOST_WEIGHT = 64
MOST_GROUPS = 16

# What a queue's credit grows by in a turn, for each unit of its weight.
SHARE = 256

# What may go is held in thousandths of a byte: the pace is bytes in a second and
# times are milliseconds, so a millisecond adds the pace itself, and nothing is rounded.
THOUSANDTHS = 1000


class Waiting:
    """A frame that waits, and since when."""

    def __init__(self, frame, since):
        self.frame = frame
        self.since = since


class Queue:
    """The frames of one sender, the first to go first."""

    def __init__(self):
        self.weight = 1
        self.credit = 0
        self.line = []


class Counts:
    """What has happened at an end since it was opened."""

    def __init__(self):
        self.sent_frames = 0
        self.sent_bytes = 0
        self.heard_frames = 0
        self.heard_bytes = 0
        self.no_frames = 0
        self.for_others = 0
        self.refused_full = 0
        self.grown_old = 0
        self.not_taken = 0


class End:
    """An end that is open; open_end is what makes one."""

    def __init__(self, now, queues, each, life, rate, burst, me):
        self.now = now
        self.queues = [Queue() for k in range(queues)]
        self.each = each
        self.life = life
        self.pace = rate
        self.most_may_go = THOUSANDTHS * burst
        self.may_go = self.most_may_go
        self.me = me
        self.on = 0
        self.has_share = False
        # The frame that is handed out is always the first of the queue that is on:
        # nothing moves the turn on before went has been told of it.
        self.is_out = False
        self.groups = []
        self.counts = Counts()

    def set_weight(self, q, w):
        if not self.has_queue(q) or not 1 <= w <= MOST_WEIGHT:
            return [WRONG]
        self.queues[q].weight = w
        return [0]

    def put(self, now, q, kind, to, body):
        if not self.may_be_now(now) or not self.has_queue(q):
            return [WRONG]
        if not is_kind(kind) or not is_address(to) or len(body) == 0:
            return [WRONG]
        if len(body) > LONGEST_BODY:
            return [TOO_LONG]
        self.pass_time(now)
        line = self.queues[q].line
        if len(line) >= self.each:
            self.counts.refused_full += 1
            return [FULL]
        line.append(Waiting(make_frame(kind, to, self.me, body), now))
        return [len(line)]

    def hand_out(self, now):
        """What the call next answers."""
        if not self.may_be_now(now):
            return [WRONG]
        if self.is_out:
            return [NOT_NOW]
        self.pass_time(now)
        if not self.has_frames():
            return [NOTHING_WAITS]
        self.find_turn()
        frame = self.queues[self.on].line[0].frame
        lacking = THOUSANDTHS * len(frame) - self.may_go
        if lacking > 0:
            return [LATER, now + self.time_to_gain(lacking)]
        self.is_out = True
        return [HANDED_OUT] + frame

    def went(self, now, ok):
        if not self.may_be_now(now) or not 0 <= ok <= 1:
            return [WRONG]
        if not self.is_out:
            return [NOT_NOW]
        # The frame still counts as handed out while time passes: it can't grow too old here.
        self.pass_time(now)
        self.is_out = False
        if ok == 1:
            self.send_first()
        else:
            self.counts.not_taken += 1
        return [0]

    def came(self, row):
        if not is_frame(row):
            self.counts.no_frames += 1
            return [NO_FRAME]
        if sender_of(row) == self.me or not self.hears(to_of(row)):
            self.counts.for_others += 1
            return [NOT_FOR_HERE]
        self.counts.heard_frames += 1
        self.counts.heard_bytes += len(row)
        return [FOR_HERE, kind_of(row)] + sender_of(row) + to_of(row) + body_of(row)

    def join_group(self, group):
        if not is_address(group):
            return [WRONG]
        if group in self.groups:
            return [0]
        if len(self.groups) >= MOST_GROUPS:
            return [FULL]
        self.groups.append(group)
        return [0]

    def leave_group(self, group):
        if not is_address(group):
            return [WRONG]
        if group not in self.groups:
            return [NOT_THERE]
        self.groups.remove(group)
        return [0]

    def may_be_now(self, now):
        return self.now <= now < TIME_LIMIT

    def has_queue(self, q):
        return 0 <= q < len(self.queues)

    def has_frames(self):
        return any([len(queue.line) > 0 for queue in self.queues])

    def hears(self, to):
        return to == self.me or is_everybody(to) or to in self.groups

    def pass_time(self, now):
        """It is that time: what is too old is gone, and more may go."""
        gained = self.pace * (now - self.now)
        self.now = now
        self.may_go = min(self.most_may_go, self.may_go + gained)
        if self.life > 0:
            for q in range(len(self.queues)):
                self.remove_old(q)

    def remove_old(self, q):
        queue = self.queues[q]
        out = 1 if self.is_out and q == self.on else 0
        fresh = [one for one in queue.line[out:] if self.now - one.since <= self.life]
        kept = queue.line[:out] + fresh
        self.counts.grown_old += len(queue.line) - len(kept)
        queue.line = kept

    def find_turn(self):
        """Moves on to the queue whose turn it is; there is one only if some frame waits."""
        while not self.try_turn():
            self.on = (self.on + 1) % len(self.queues)
            self.has_share = False

    def try_turn(self):
        """Gives the queue that is on what it is due, and tells whether it's its turn."""
        queue = self.queues[self.on]
        if len(queue.line) == 0:
            queue.credit = 0
            return False
        if not self.has_share:
            queue.credit += SHARE * queue.weight
            self.has_share = True
        return len(queue.line[0].frame) <= queue.credit

    def time_to_gain(self, lacking):
        """How many milliseconds until so much more may go; something lacks only if there's a pace."""
        return (lacking + self.pace - 1) // self.pace

    def send_first(self):
        """The frame that was handed out has gone."""
        queue = self.queues[self.on]
        length = len(queue.line.pop(0).frame)
        queue.credit -= length
        if self.pace > 0:
            self.may_go -= THOUSANDTHS * length
        self.counts.sent_frames += 1
        self.counts.sent_bytes += length


def open_end(now, queues, each, life, rate, burst, me):
    """A new end, or None if one of these isn't as it may be."""
    if now >= TIME_LIMIT or not 1 <= queues <= MOST_QUEUES or not 1 <= each <= MOST_EACH:
        return None
    if not 0 <= life <= LONGEST_LIFE or not 0 <= rate <= HIGHEST_RATE:
        return None
    if not LEAST_BURST <= burst <= MOST_BURST:
        return None
    if not is_address(me) or is_everybody(me):
        return None
    return End(now, queues, each, life, rate, burst, me)
