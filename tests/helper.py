"""What the tests share: calls as lists of numbers, frames made independently, answers split."""

import random

from framelink.desk import Desk, answers

ME = [2, 0, 0, 0, 0, 1]
YOU = [2, 0, 0, 0, 0, 2]
EVERYBODY = [255] * 6
OTHER = [2, 0, 0, 0, 0, 3]

LAST_TIME = 2**63 - 1
WRONG, NOT_THERE, NO_FRAME, NOT_NOW, FULL, TOO_LONG = [[-1], [-2], [-3], [-4], [-5], [-7]]
INT_MIN, INT_MAX = -(2**31), 2**31 - 1


def row(numbers):
    return [len(numbers)] + list(numbers)


def opening(now=0, queues=1, each=64, life=0, rate=0, burst=1518, me=ME):
    return [1, now, queues, each, life, rate, burst] + row(me)


def weight(q, w):
    return [2, q, w]


def put(now=0, q=0, kind=1, to=YOU, body=(1,)):
    return [3, now, q, kind] + row(to) + row(body)


def put_long(length, mark, now=0, q=0):
    """A put of a frame that is so many bytes long in all and bears the mark as its kind."""
    return put(now, q, mark, YOU, [mark % 256] * (length - 18))


def handing(now=0):
    return [4, now]


def went(now=0, ok=1):
    return [5, now, ok]


def came(frame):
    return [6] + row(frame)


def join(group):
    return [7] + row(group)


def leave(group):
    return [8] + row(group)


def hear(choice):
    return [9, choice]


def waits(now=0, q=0):
    return [10, now, q]


def drop(q=0):
    return [11, q]


def counts():
    return [12]


def make(kind=1, to=YOU, sender=ME, body=(1,)):
    return [13, kind] + row(to) + row(sender) + row(body)


def read(frame):
    return [14] + row(frame)


def due(now=0):
    return [15, now]


def group(number):
    return [3, 0, 0, 0, 0, number]


CRC_TABLE = []
for first in range(256):
    entry = first
    for _ in range(8):
        entry = entry // 2 ^ 0x82F63B78 if entry % 2 else entry // 2
    CRC_TABLE.append(entry)


def crc(data):
    """CRC-32C by a table: another way than the program's."""
    x = 0xFFFFFFFF
    for byte in bytes(data):
        x = CRC_TABLE[(x ^ byte) & 255] ^ (x >> 8)
    return x ^ 0xFFFFFFFF


def frame(kind=1, to=ME, sender=YOU, body=(1,)):
    checked = list(to) + list(sender) + list(kind.to_bytes(2, "big")) + list(body)
    return checked + list(crc(checked).to_bytes(4, "big"))


def flat(calls):
    return [number for call in calls for number in call]


def split(told):
    """The answers of a list of calls, each a list."""
    parted = []
    place = 0
    while place < len(told):
        length = told[place]
        parted.append(told[place + 1 : place + 1 + length])
        place += 1 + length
    if place != len(told):
        raise AssertionError("the last answer is shorter than its count")
    return parted


def ask(*calls):
    """What is answered to each of these calls."""
    told = answers(flat(calls))
    if any(type(number) is not int for number in told):
        raise AssertionError("something else than a whole number is answered")
    parted = split(told)
    if len(parted) != len(calls):
        raise AssertionError(f"{len(calls)} calls have {len(parted)} answers")
    return parted


def last(*calls):
    """What is answered to the last of these calls."""
    return ask(*calls)[-1]


def end_after(*calls):
    """The end as it is behind these calls."""
    desk = Desk(flat(calls))
    while not desk.is_done():
        desk.answer_call()
    return desk.end


def turn_after(*calls):
    """Which queue is on behind these calls, whether it has its share, and all credits."""
    turns = end_after(*calls).turns
    return turns.on, turns.has_share, turns.credit_of


COUNTED = ["sent_frames", "sent_bytes", "heard_frames", "heard_bytes", "no_frames", "for_others", "dropped",
           "refused_full", "grown_old", "not_taken"]


def counted(*calls):
    """What counts tells behind these calls, without what is still 0."""
    first, *told = last(*calls, counts())
    if first != 0 or len(told) != len(COUNTED):
        raise AssertionError(f"counts answers {[first] + told}")
    return {name: number for name, number in zip(COUNTED, told) if number != 0}


def sent_marks(how_many, *calls):
    """The kinds of so many frames that go, one behind another at time 0, after these calls."""
    rounds = [handing(0), went(0, 1)] * how_many
    handed = ask(*calls, *rounds)[len(calls) :: 2]
    return [answer[13] * 256 + answer[14] for answer in handed if answer[0] == 1]


def some_bytes(length, seed=7):
    source = random.Random(seed)
    return [source.randrange(256) for _ in range(length)]
