"""One end of a link: what waits in its queues, what may go and when, and what it hears.

Each call that needs an open end is a method; it gives back the numbers of its answer.
"""

from framelink.counts import Counts
from framelink.frames import (
    body_of,
    is_address,
    is_everybody,
    is_frame,
    kind_of,
    make_frame,
    refusal_of,
    sender_of,
    to_of,
)
from framelink.refusals import FULL, NO_FRAME, NOT_NOW, NOT_THERE, WRONG
from framelink.turns import Turns

# What next answers first, but for a refusal.
NOTHING_WAITS = 0
HANDED_OUT = 1
LATER = 2

# What came answers first, but for a refusal.
NOT_FOR_HERE = 0
FOR_HERE = 1

TIME_LIMIT = 0x8000000000000000
MOST_QUEUES = 8
MOST_EACH = 64
LONGEST_LIFE = 3600000
HIGHEST_RATE = 0xFFFFFFFF
LEAST_BURST = 1518
MOST_BURST = 16777216
MOST_WEIGHT = 64
MOST_GROUPS = 16

# What may go is held in thousandths of a byte: the pace is bytes in a second and
# times are milliseconds, so a millisecond adds the pace itself, and nothing is rounded.
THOUSANDTHS = 1000


class Waiting:
    """A frame that waits, and since when."""

    def __init__(self, frame, since):
        self.frame = frame
        self.since = since


class Queue:
    """The frames of one sender, the first to go first."""

    def __init__(self):
        self.weight = 1
        self.line = []


class End:
    """An end that is open; open_end is what makes one."""

    def __init__(self, now, queues, each, life, rate, burst, me):
        self.now = now
        self.queues = [Queue() for k in range(queues)]
        self.each = each
        self.life = life
        self.pace = rate
        self.most_may_go = THOUSANDTHS * burst
        self.may_go = self.most_may_go
        self.me = me
        self.turns = Turns(0, False, [0 for k in range(queues)])
        # The frame that is handed out is always the first of the queue that is on:
        # nothing moves the turn on before went has been told of it.
        self.is_out = False
        self.groups = []
        self.hears_all = False
        self.counts = Counts()

    def set_weight(self, q, w):
        if not self.has_queue(q) or not 1 <= w <= MOST_WEIGHT:
            return [WRONG]
        self.queues[q].weight = w
        return [0]

    def put(self, now, q, kind, to, body):
        if not self.may_be_now(now) or not self.has_queue(q):
            return [WRONG]
        refusal = refusal_of(kind, to, self.me, body)
        if refusal is not None:
            return [refusal]
        self.pass_time(now)
        line = self.queues[q].line
        if len(line) >= self.each:
            self.counts.refused_full += 1
            return [FULL]
        line.append(Waiting(make_frame(kind, to, self.me, body), now))
        return [len(line)]

    def hand_out(self, now):
        """What the call next answers."""
        if not self.may_be_now(now):
            return [WRONG]
        if self.is_out:
            return [NOT_NOW]
        self.pass_time(now)
        if not self.has_frames():
            return [NOTHING_WAITS]
        self.turns.find_turn(self.queues)
        frame = self.queues[self.turns.on].line[0].frame
        start = self.time_to_go(len(frame))
        if start > now:
            return [LATER, start]
        self.is_out = True
        return [HANDED_OUT] + frame

    def went(self, now, ok):
        if not self.may_be_now(now) or not 0 <= ok <= 1:
            return [WRONG]
        if not self.is_out:
            return [NOT_NOW]
        # The frame still counts as handed out while time passes: it can't grow too old here.
        self.pass_time(now)
        self.is_out = False
        if ok == 1:
            self.send_first()
        else:
            self.counts.not_taken += 1
        return [0]

    def came(self, row):
        if not is_frame(row):
            self.counts.no_frames += 1
            return [NO_FRAME]
        if sender_of(row) == self.me or not self.hears(to_of(row)):
            self.counts.for_others += 1
            return [NOT_FOR_HERE]
        self.counts.heard_frames += 1
        self.counts.heard_bytes += len(row)
        return [FOR_HERE, kind_of(row)] + sender_of(row) + to_of(row) + body_of(row)

    def join_group(self, group):
        if not is_address(group):
            return [WRONG]
        if group in self.groups:
            return [0]
        if len(self.groups) >= MOST_GROUPS:
            return [FULL]
        self.groups.append(group)
        return [0]

    def leave_group(self, group):
        if not is_address(group):
            return [WRONG]
        if group not in self.groups:
            return [NOT_THERE]
        self.groups.remove(group)
        return [0]

    def hear(self, choice):
        if not 0 <= choice <= 1:
            return [WRONG]
        self.hears_all = choice == 1
        return [0]

    def waits(self, now, q):
        if not self.may_be_now(now) or not self.has_queue(q):
            return [WRONG]
        self.pass_time(now)
        line = self.queues[q].line
        age = now - line[0].since if len(line) > 0 else 0
        return [0, len(line), sum([len(one.frame) for one in line]), age]

    def drop(self, q):
        if not self.has_queue(q):
            return [WRONG]
        dropped = self.keep_only(q, [])
        self.counts.dropped += dropped
        return [dropped]

    def due(self, now):
        if not self.may_be_now(now):
            return [WRONG]
        self.pass_time(now)
        times = self.times_to_go() + self.times_of_age()
        # The time has passed all the same: the promise tells it ahead of this refusal.
        if len(times) == 0:
            return [NOT_THERE]
        return [0, min(times)]

    def may_be_now(self, now):
        return self.now <= now < TIME_LIMIT

    def has_queue(self, q):
        return 0 <= q < len(self.queues)

    def has_frames(self):
        return any([len(queue.line) > 0 for queue in self.queues])

    def hears(self, to):
        return self.hears_all or to == self.me or is_everybody(to) or to in self.groups

    def pass_time(self, now):
        """It is that time: what is too old is gone, and more may go."""
        gained = self.pace * (now - self.now)
        self.now = now
        self.may_go = min(self.most_may_go, self.may_go + gained)
        if self.life > 0:
            for q in range(len(self.queues)):
                self.remove_old(q)

    def remove_old(self, q):
        fresh = [one for one in self.not_out(q) if self.now - one.since <= self.life]
        self.counts.grown_old += self.keep_only(q, fresh)

    def how_many_out(self, q):
        return 1 if self.is_out and q == self.turns.on else 0

    def not_out(self, q):
        """The queue's frames but one that is handed out."""
        return self.queues[q].line[self.how_many_out(q):]

    def keep_only(self, q, staying):
        """Of the queue's frames these stay, and one that is handed out; tells how many are gone."""
        queue = self.queues[q]
        kept = queue.line[:self.how_many_out(q)] + staying
        gone = len(queue.line) - len(kept)
        queue.line = kept
        return gone

    def time_to_go(self, length):
        """The first time from now on at which a frame of this length may go."""
        lacking = THOUSANDTHS * length - self.may_go
        # Without a pace nothing ever lacks: the least burst is as long as the longest frame.
        if lacking <= 0:
            return self.now
        return self.now + (lacking + self.pace - 1) // self.pace

    def times_to_go(self):
        """In a list: the time from when next would hand out a frame, if there is one to hand out."""
        if self.is_out or not self.has_frames():
            return []
        trial = self.turns.trial()
        trial.find_turn(self.queues)
        return [self.time_to_go(len(self.queues[trial.on].line[0].frame))]

    def times_of_age(self):
        """The first time at which each of the frames will be too old, but for one that is handed out."""
        times = []
        if self.life > 0:
            for q in range(len(self.queues)):
                times.extend([one.since + self.life + 1 for one in self.not_out(q)])
        return times

    def send_first(self):
        """The frame that was handed out has gone."""
        length = len(self.queues[self.turns.on].line.pop(0).frame)
        self.turns.spend(length)
        if self.pace > 0:
            self.may_go -= THOUSANDTHS * length
        self.counts.sent_frames += 1
        self.counts.sent_bytes += length


def open_end(now, queues, each, life, rate, burst, me):
    """A new end, or None if one of these isn't as it may be."""
    if now >= TIME_LIMIT or not 1 <= queues <= MOST_QUEUES or not 1 <= each <= MOST_EACH:
        return None
    if not 0 <= life <= LONGEST_LIFE or not 0 <= rate <= HIGHEST_RATE:
        return None
    if not LEAST_BURST <= burst <= MOST_BURST:
        return None
    if not is_address(me) or is_everybody(me):
        return None
    return End(now, queues, each, life, rate, burst, me)
