"""Frames: what may be put into one, how one is made, known and taken apart.

The calls make and read, which need no end, are answered here.
"""

from framelink.refusals import NO_FRAME, TOO_LONG, WRONG

ADDRESS_LENGTH = 6
EVERYBODY = (255, 255, 255, 255, 255, 255)
HIGHEST_KIND = 65535
LONGEST_BODY = 1500

# A frame is to (6), from (6), kind (2), the body, and the check (4).
HEAD_LENGTH = 14
CHECK_LENGTH = 4
SHORTEST_FRAME = 19
LONGEST_FRAME = 1518

ALL_ONES = 0xFFFFFFFF
POLYNOMIAL = 0x82F63B78


def is_address(row):
    return len(row) == ADDRESS_LENGTH


def is_everybody(address):
    return tuple(address) == EVERYBODY


def is_kind(kind):
    return 0 <= kind <= HIGHEST_KIND


def bytes_of(number, length):
    """The number in so many bytes, the highest first."""
    return [(number >> (8 * (length - 1 - k))) & 255 for k in range(length)]


def number_of(row):
    """The number that these bytes, the highest first, stand for."""
    number = 0
    for byte in row:
        number = number * 256 + byte
    return number


def crc32c(row):
    x = ALL_ONES
    for byte in row:
        x = x ^ byte
        for bit in range(8):
            x = (x >> 1) ^ (POLYNOMIAL if x & 1 else 0)
    return x ^ ALL_ONES


def refusal_of(kind, to, sender, body):
    """The refusal that is due if no frame may be made of these, else None."""
    if not is_kind(kind) or not is_address(to) or not is_address(sender) or len(body) == 0:
        return WRONG
    if len(body) > LONGEST_BODY:
        return TOO_LONG
    return None


def make_frame(kind, to, sender, body):
    checked = to + sender + bytes_of(kind, 2) + body
    return checked + bytes_of(crc32c(checked), CHECK_LENGTH)


def is_frame(row):
    if not SHORTEST_FRAME <= len(row) <= LONGEST_FRAME:
        return False
    end = len(row) - CHECK_LENGTH
    return number_of(row[end:]) == crc32c(row[:end])


def to_of(frame):
    return frame[:ADDRESS_LENGTH]


def sender_of(frame):
    return frame[ADDRESS_LENGTH:2 * ADDRESS_LENGTH]


def kind_of(frame):
    return number_of(frame[2 * ADDRESS_LENGTH:HEAD_LENGTH])


def body_of(frame):
    return frame[HEAD_LENGTH:len(frame) - CHECK_LENGTH]


def answer_make(kind, to, sender, body):
    """What the call make answers."""
    refusal = refusal_of(kind, to, sender, body)
    if refusal is not None:
        return [refusal]
    frame = make_frame(kind, to, sender, body)
    return [len(frame)] + frame


def answer_read(row):
    """What the call read answers."""
    if not is_frame(row):
        return [NO_FRAME]
    return [kind_of(row)] + to_of(row) + sender_of(row) + body_of(row)
