"""Long lists of all fifteen calls mixed, against a plain model that goes through time millisecond by millisecond."""

import copy
import random
import unittest
from collections import Counter

from framelink.desk import answers
from tests.helper import (
    EVERYBODY,
    ME,
    OTHER,
    YOU,
    came,
    counts,
    crc,
    drop,
    due,
    flat,
    frame,
    group,
    handing,
    hear,
    join,
    leave,
    make,
    opening,
    put,
    read,
    split,
    waits,
    weight,
    went,
)


def good_frame(row):
    return 19 <= len(row) <= 1518 and bytes(row[-4:]) == crc(row[:-4]).to_bytes(4, "big")


class Model:
    """All frames of all queues in one list, the words taken as they stand."""

    def __init__(self):
        self.is_open = False
        self.tally = [0] * 10

    def open(self, now, queues, each, life, rate, burst, me):
        good = now < 2**63 and queues in range(1, 9) and each in range(1, 65) and life in range(3600001)
        good = good and rate in range(2**32) and burst in range(1518, 16777217) and len(me) == 6 and me != [255] * 6
        if not good:
            return [-1]
        self.is_open, self.tally = True, [0] * 10
        self.now, self.each, self.life, self.rate, self.burst, self.me = now, each, life, rate, burst, me
        self.weights, self.credit, self.on, self.share = [1] * queues, [0] * queues, 0, False
        self.may, self.frames, self.out, self.groups, self.all = 1000 * burst, [], None, [], 0
        return [0]

    def timed(self, now):
        return self.is_open and self.now <= now < 2**63

    def queue(self, q):
        return self.is_open and q in range(len(self.weights))

    def of(self, q):
        return [one for one in self.frames if one["q"] == q]

    def too_old(self, now):
        return [one for one in self.frames if one is not self.out and self.life and now - one["since"] > self.life]

    def it_is(self, now):
        while self.now < now:
            self.now += 1
            self.may = min(1000 * self.burst, self.may + self.rate)
        gone = self.too_old(now)
        self.tally[8] += len(gone)
        self.frames = [one for one in self.frames if not any(one is old for old in gone)]

    def weight(self, q, w):
        if not self.queue(q) or w not in range(1, 65):
            return [-1]
        self.weights[q] = w
        return [0]

    def unfit(self, kind, to, sender, body):
        if kind not in range(65536) or len(to) != 6 or len(sender) != 6 or not body:
            return [-1]
        return [-7] if len(body) > 1500 else None

    def put(self, now, q, kind, to, body):
        if not self.timed(now) or not self.queue(q):
            return [-1]
        if self.unfit(kind, to, self.me, body):
            return self.unfit(kind, to, self.me, body)
        self.it_is(now)
        if len(self.of(q)) == self.each:
            self.tally[7] += 1
            return [-5]
        self.frames.append({"q": q, "bytes": frame(kind, to, self.me, body), "since": now})
        return [len(self.of(q))]

    def turn(self):
        while True:
            q = self.on
            if not self.of(q):
                self.credit[q] = 0
            else:
                if not self.share:
                    self.credit[q] += 256 * self.weights[q]
                    self.share = True
                if len(self.of(q)[0]["bytes"]) <= self.credit[q]:
                    return self.of(q)[0]
            self.on, self.share = (q + 1) % len(self.weights), False

    def next(self, now):
        if not self.timed(now):
            return [-1]
        if self.out:
            return [-4]
        self.it_is(now)
        if not self.frames:
            return [0]
        first = self.turn()
        may, when = self.may, now
        while may < 1000 * len(first["bytes"]):
            may, when = may + self.rate, when + 1
        if when > now:
            return [2, when]
        self.out = first
        return [1] + first["bytes"]

    def went(self, now, ok):
        if not self.timed(now) or ok not in (0, 1):
            return [-1]
        if not self.out:
            return [-4]
        self.it_is(now)
        gone, self.out = self.out, None
        if ok == 0:
            self.tally[9] += 1
            return [0]
        self.frames = [one for one in self.frames if one is not gone]
        self.credit[gone["q"]] -= len(gone["bytes"])
        self.may -= 1000 * len(gone["bytes"]) if self.rate else 0
        self.tally[0] += 1
        self.tally[1] += len(gone["bytes"])
        return [0]

    def came(self, row):
        if not self.is_open:
            return [-1]
        if not good_frame(row):
            self.tally[4] += 1
            return [-3]
        to, sender = row[:6], row[6:12]
        if sender == self.me or not (self.all or to in [self.me, EVERYBODY] + self.groups):
            self.tally[5] += 1
            return [0]
        self.tally[2] += 1
        self.tally[3] += len(row)
        return [1, 256 * row[12] + row[13]] + sender + to + row[14:-4]

    def join(self, address):
        if not self.is_open or len(address) != 6:
            return [-1]
        if address not in self.groups and len(self.groups) == 16:
            return [-5]
        self.groups = [one for one in self.groups if one != address] + [address]
        return [0]

    def leave(self, address):
        if not self.is_open or len(address) != 6:
            return [-1]
        if address not in self.groups:
            return [-2]
        self.groups = [one for one in self.groups if one != address]
        return [0]

    def hear(self, choice):
        if not self.is_open or choice not in (0, 1):
            return [-1]
        self.all = choice
        return [0]

    def waits(self, now, q):
        if not self.timed(now) or not self.queue(q):
            return [-1]
        self.it_is(now)
        ages = [now - one["since"] for one in self.of(q)]
        return [0, len(ages), len(flat([one["bytes"] for one in self.of(q)])), max(ages, default=0)]

    def drop(self, q):
        if not self.queue(q):
            return [-1]
        stay = [one for one in self.frames if one["q"] != q or one is self.out]
        dropped = len(self.frames) - len(stay)
        self.frames = stay
        self.tally[6] += dropped
        return [dropped]

    def counts(self):
        return [0] + self.tally

    def make(self, kind, to, sender, body):
        return self.unfit(kind, to, sender, body) or [18 + len(body)] + frame(kind, to, sender, body)

    def read(self, row):
        return [256 * row[12] + row[13]] + row[:12] + row[14:-4] if good_frame(row) else [-3]

    def due(self, now):
        if not self.timed(now):
            return [-1]
        self.it_is(now)
        named = copy.deepcopy(self).next(now)
        times = [now] if named[0] == 1 else named[1:]
        if self.life and [one for one in self.frames if one is not self.out]:
            then = now
            while not self.too_old(then):
                then += 1
            times.append(then)
        return [0, min(times)] if times else [-2]


CALLS = {
    "open": opening, "weight": weight, "put": put, "next": handing, "went": went, "came": came, "join": join,
    "leave": leave, "hear": hear, "waits": waits, "drop": drop, "counts": counts, "make": make, "read": read,
    "due": due,
}

# How often each call is drawn: in most lists frames are sent, in some groups are joined and frames heard.
SENDING = [1, 3, 40, 40, 36, 3, 2, 1, 1, 10, 3, 4, 5, 2, 24]
HEARING = [1, 1, 4, 4, 4, 20, 120, 12, 6, 2, 1, 6, 5, 6, 3]


class Source:
    """What is handed over, drawn from a seed: mostly as it may be, at times not."""

    def __init__(self, seed):
        self.draw = random.Random(seed)
        self.now = self.draw.choice([0, 0, 1000, 2**62])

    def one_of(self, usual, unusual):
        return self.draw.choice(unusual if self.draw.random() < 0.05 else usual)

    def time(self):
        if self.draw.random() < 0.04:
            return self.draw.choice([2**63, 2**64 - 1, max(0, self.now - 1), 0])
        self.now += self.draw.choice([0, 0, 0, 0, 0, 1, 1, 2, 5, 13, 40])
        return self.now

    def q(self):
        return self.one_of([0, 0, 0, 1, 1, 2], [-1, 3, 7, 8])

    def kind(self):
        return self.one_of([0, 1, 258, 65535], [-1, 65536])

    def address(self):
        return self.one_of([ME, YOU, OTHER, EVERYBODY] + [group(k) for k in range(18)], [[], [1] * 5, [1] * 7])

    def body(self):
        length = self.one_of([1, 1, 2, 5, 40, 82, 238, 239, 300], [0, 1500, 1501, 1501])
        return [self.draw.randrange(256) for _ in range(length)]

    def row(self):
        whole = frame(self.draw.choice([0, 9, 65535]), self.draw.choice([ME, ME, EVERYBODY, OTHER, group(1), group(2)]),
                      self.draw.choice([YOU, YOU, OTHER, ME]), self.body())
        if self.draw.random() < 0.25:
            whole[self.draw.randrange(len(whole))] ^= 1 << self.draw.randrange(8)
        return whole

    def settings(self):
        """What open is handed: in one of three openings something isn't as it may be."""
        draw = self.draw
        usual = [draw.choice([0, self.now, 500]), draw.choice([1, 2, 3, 3]), draw.choice([1, 3, 64])]
        usual += [draw.choice([0, 1, 60, 300]), draw.choice([0, 900, 4000, 20000]), draw.choice([1518, 1700]), ME]
        if draw.random() < 0.33:
            place = draw.randrange(7)
            usual[place] = draw.choice([[2**63], [0, 9], [0, 65], [-1, 3600001], [-1, 2**32], [1517, 16777217],
                                        [EVERYBODY, []]][place])
        return usual

    def given(self, name):
        draw = self.draw
        return {
            "open": lambda: self.settings(),
            "weight": lambda: [self.q(), self.one_of([1, 2, 3, 64], [0, 65])],
            "put": lambda: [self.time(), self.q(), self.kind(), self.address(), self.body()],
            "next": lambda: [self.time()],
            "went": lambda: [self.time(), self.one_of([1, 1, 1, 0], [-1, 2])],
            "came": lambda: [self.row()],
            "join": lambda: [self.address()],
            "leave": lambda: [self.address()],
            "hear": lambda: [self.one_of([0, 1], [-1, 2])],
            "waits": lambda: [self.time(), self.q()],
            "drop": lambda: [self.q()],
            "counts": lambda: [],
            "make": lambda: [self.kind(), self.address(), draw.choice([ME, YOU, EVERYBODY]), self.body()],
            "read": lambda: [self.row()],
            "due": lambda: [self.time()],
        }[name]()


def draw_list(seed):
    """A list's calls, each with its name and what the model answers."""
    source, model = Source(seed), Model()
    drawn, room = [], 16000
    often = HEARING if seed % 5 == 4 else SENDING
    while len(drawn) < 1000:
        # Some lists begin with calls on an end that isn't open yet; most lists open it at once.
        opens = not model.is_open and len(drawn) >= (seed % 4) * 5
        name = "open" if opens else source.draw.choices(list(CALLS), often)[0]
        given = source.given(name)
        call = CALLS[name](*given)
        room -= len(call)
        if room < 0:
            break
        drawn.append((name, call, getattr(model, name)(*given)))
        if name == "open" and model.is_open:
            source.now = model.now
    return drawn


class Mixed(unittest.TestCase):
    def test_against_the_model(self):
        seen = Counter()
        for seed in range(60):
            drawn = draw_list(seed)
            calls = flat([call for name, call, expected in drawn])
            before = list(calls)
            got = split(answers(calls))
            self.assertEqual(calls, before)
            self.assertEqual(len(got), len(drawn))
            for k, (name, call, expected) in enumerate(drawn):
                self.assertEqual(got[k], expected, (seed, k, name, call[:12]))
                seen[name, min(expected[0], 3)] += 1
        self.check_all_was_seen(seen)

    def check_all_was_seen(self, seen):
        """The lists are worth something only if each way to answer came up in them, and not just once."""
        ways = {
            "open": [0, -1], "weight": [0, -1], "put": [1, 2, 3, -1, -5, -7], "next": [0, 1, 2, -1, -4],
            "went": [0, -1, -4], "came": [0, 1, -1, -3], "join": [0, -1, -5], "leave": [0, -1, -2], "hear": [0, -1],
            "waits": [0, -1], "drop": [0, 1, 2, -1], "counts": [0], "make": [3, -1, -7], "read": [0, 3, -3],
            "due": [0, -1, -2],
        }
        seldom = [(name, way) for name in ways for way in ways[name] if seen[name, way] < 5]
        self.assertEqual(seldom, [])
