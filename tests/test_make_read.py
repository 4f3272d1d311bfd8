"""Points 13 and 14: make and read."""

import unittest

from tests.helper import (
    EVERYBODY,
    INT_MAX,
    INT_MIN,
    ME,
    NO_FRAME,
    OTHER,
    TOO_LONG,
    WRONG,
    YOU,
    ask,
    came,
    counted,
    frame,
    handing,
    last,
    make,
    opening,
    put,
    read,
    some_bytes,
    waits,
)

OPENINGS = ([], [opening()])
NO_ADDRESSES = ([], [1] * 5, [1] * 7, [1] * 12, [255] * 12, [0] * 15000)


class Make(unittest.TestCase):
    def test_the_frame(self):
        for before in OPENINGS:
            got = last(*before, make(0x1234, YOU, OTHER, [7, 8, 9]))
            self.assertEqual(got, [21] + YOU + OTHER + [0x12, 0x34, 7, 8, 9] + frame(0x1234, YOU, OTHER, [7, 8, 9])[-4:])

    def test_kind(self):
        for kind in (0, 1, 255, 256, 65535):
            self.assertEqual(last(make(kind)), [19] + frame(kind, YOU, ME))
        for kind in (-1, 65536, INT_MIN, INT_MAX):
            self.assertEqual(last(make(kind)), WRONG, kind)

    def test_any_address(self):
        for address in (ME, YOU, EVERYBODY, [0] * 6):
            self.assertEqual(last(make(1, address, OTHER)), [19] + frame(1, address, OTHER))
            self.assertEqual(last(make(1, OTHER, address)), [19] + frame(1, OTHER, address))
            self.assertEqual(last(opening(), make(1, address, address)), [19] + frame(1, address, address))

    def test_no_address(self):
        for numbers in NO_ADDRESSES:
            self.assertEqual(last(make(to=numbers)), WRONG, len(numbers))
            self.assertEqual(last(make(sender=numbers)), WRONG, len(numbers))
        self.assertEqual(last(make(to=[1] * 7, sender=[1] * 5)), WRONG)

    def test_body(self):
        for length in (1, 2, 1499, 1500):
            body = some_bytes(length)
            self.assertEqual(last(make(body=body)), [18 + length] + frame(1, YOU, ME, body))
        self.assertEqual(last(make(body=[])), WRONG)
        for length in (1501, 1502, 15900):
            self.assertEqual(last(make(body=[0] * length)), TOO_LONG)

    def test_wrong_ahead_of_too_long(self):
        long = [1] * 1501
        for call in [make(-1, body=long), make(65536, body=long), make(to=[1] * 5, body=long),
                     make(sender=[1] * 7, body=long)]:
            for before in OPENINGS:
                self.assertEqual(last(*before, call), WRONG)

    def test_changes_nothing(self):
        got = ask(opening(), make(), make(-1), waits(), handing())
        self.assertEqual(got[3:], [[0, 0, 0, 0], [0]])

    def test_is_the_frame_that_put_makes(self):
        for to, kind, body in [(YOU, 9, [1]), (EVERYBODY, 65535, some_bytes(1500))]:
            got = ask(opening(), put(0, 0, kind, to, body), handing(), make(kind, to, ME, body))
            self.assertEqual(got[2][1:], got[3][1:])

    def test_is_what_came_takes(self):
        made = last(make(9, ME, YOU, [1, 2]))[1:]
        self.assertEqual(last(opening(), came(made)), [1, 9] + YOU + ME + [1, 2])


class Read(unittest.TestCase):
    def test_kind_to_from_and_body(self):
        for before in OPENINGS:
            self.assertEqual(last(*before, read(frame(0x1234, YOU, OTHER, [7, 8]))), [0x1234] + YOU + OTHER + [7, 8])

    def test_whoever_it_is_for(self):
        for to in (ME, OTHER, EVERYBODY):
            for sender in (ME, YOU, EVERYBODY):
                self.assertEqual(last(opening(), read(frame(3, to, sender))), [3] + to + sender + [1])

    def test_kinds(self):
        for kind in (0, 1, 255, 256, 65535):
            self.assertEqual(last(read(frame(kind))), [kind] + ME + YOU + [1])

    def test_lengths(self):
        for length in (19, 20, 1517, 1518):
            body = some_bytes(length - 18)
            self.assertEqual(last(read(frame(1, ME, YOU, body))), [1] + ME + YOU + body)
        for length in (18, 1519, 1520):
            whole = frame(1, ME, YOU, some_bytes(length - 18))
            self.assertEqual(len(whole), length)
            self.assertEqual(last(read(whole)), NO_FRAME)

    def test_no_frames(self):
        whole = frame(body=[1, 2, 3])
        for damaged in [[], [0], [0] * 4, [0] * 19, [0] * 15900, whole[:-1], whole[1:], whole + [0]]:
            for before in OPENINGS:
                self.assertEqual(last(*before, read(damaged)), NO_FRAME, damaged[:20])

    def test_a_wrong_sum(self):
        for length in (19, 1518):
            for place in (0, 5, 6, 11, 12, 13, 14, length - 5, length - 4, length - 1):
                damaged = frame(body=[3] * (length - 18))
                damaged[place] ^= 128
                self.assertEqual(last(read(damaged)), NO_FRAME, (length, place))

    def test_what_make_has_made(self):
        for kind, to, sender, body in [(0, YOU, ME, [0]), (65535, EVERYBODY, [0] * 6, some_bytes(1500)),
                                       (258, ME, ME, some_bytes(77))]:
            made = last(make(kind, to, sender, body))
            self.assertEqual(last(read(made[1:])), [kind] + to + sender + body)

    def test_what_next_has_handed_out(self):
        handed = last(opening(), put(0, 0, 5, EVERYBODY, [4, 2]), handing())
        self.assertEqual(last(read(handed[1:])), [5] + EVERYBODY + ME + [4, 2])

    def test_changes_nothing(self):
        self.assertEqual(counted(opening(), read(frame()), read([]), read(frame(to=OTHER))), {})
