"""Point 3: put."""

import unittest

from tests.helper import (
    EVERYBODY,
    FULL,
    INT_MAX,
    INT_MIN,
    ME,
    TOO_LONG,
    WRONG,
    YOU,
    ask,
    counted,
    frame,
    handing,
    last,
    opening,
    put,
    went,
)


class Waits(unittest.TestCase):
    def test_how_many_wait_in_that_queue(self):
        got = ask(opening(queues=2), put(), put(), put(0, 1), put(), put(0, 1))
        self.assertEqual(got[1:], [[1], [2], [1], [3], [2]])

    def test_behind_those_of_the_queue(self):
        calls = [opening()] + [put(body=[k]) for k in range(5)] + [handing(), went()] * 5
        self.assertEqual(ask(*calls)[6::2], [[1] + frame(1, YOU, ME, [k]) for k in range(5)])

    def test_the_frame_is_from_me(self):
        for to in (YOU, ME, EVERYBODY):
            got = last(opening(), put(0, 0, 258, to, [7, 8]), handing())
            self.assertEqual(got, [1] + frame(258, to, ME, [7, 8]))

    def test_one_that_is_handed_out_still_waits(self):
        got = ask(opening(each=2), put(), handing(), put(), put(), went(), put())
        self.assertEqual(got[3:], [[2], FULL, [0], [2]])


class Bounds(unittest.TestCase):
    def test_kind(self):
        for kind in (0, 1, 255, 256, 65535):
            self.assertEqual(ask(opening(), put(kind=kind), handing())[1:], [[1], [1] + frame(kind, YOU, ME)])
        for kind in (-1, 65536, INT_MIN, INT_MAX):
            self.assertEqual(ask(opening(), put(kind=kind), handing())[1:], [WRONG, [0]], kind)

    def test_to(self):
        for to in ([], [1] * 5, [1] * 7, [255] * 12, [0] * 15900):
            self.assertEqual(ask(opening(), put(to=to), handing())[1:], [WRONG, [0]], len(to))

    def test_queue(self):
        for queues in (1, 8):
            self.assertEqual(last(opening(queues=queues), put(q=queues - 1)), [1])
            for q in (-1, queues, INT_MIN, INT_MAX):
                self.assertEqual(ask(opening(queues=queues), put(q=q), handing())[1:], [WRONG, [0]], (queues, q))

    def test_body(self):
        self.assertEqual(ask(opening(), put(body=[]), handing())[1:], [WRONG, [0]])
        self.assertEqual(last(opening(), put(body=[0])), [1])
        self.assertEqual(last(opening(), put(body=[0] * 1500)), [1])
        self.assertEqual(ask(opening(), put(body=[0] * 1501), handing())[1:], [TOO_LONG, [0]])
        self.assertEqual(last(opening(), put(body=[0] * 15900)), TOO_LONG)

    def test_how_many_a_queue_may_have(self):
        for each in (1, 2, 64):
            got = ask(opening(queues=2, each=each), *[put()] * (each + 2), put(0, 1))
            self.assertEqual(got[1:], [[k + 1] for k in range(each)] + [FULL, FULL, [1]])


class Order(unittest.TestCase):
    long = [1] * 1501

    def test_wrong_ahead_of_too_long(self):
        for call in [put(kind=-1, body=self.long), put(to=[1], body=self.long), put(q=1, body=self.long),
                     put(now=4, body=self.long), put(now=2**63, body=self.long)]:
            self.assertEqual(last(opening(now=5), call), WRONG)

    def test_wrong_ahead_of_full(self):
        for call in [put(5, kind=65536), put(5, to=[1]), put(4), put(2**63), put(5, body=[])]:
            self.assertEqual(last(opening(now=5, each=1), put(5), call), WRONG)

    def test_too_long_ahead_of_full(self):
        self.assertEqual(last(opening(each=1), put(), put(body=self.long)), TOO_LONG)


class Refused(unittest.TestCase):
    def test_wrong_and_too_long_stand_ahead_of_the_time(self):
        for call in [put(50, kind=-1), put(50, to=[]), put(50, q=1), put(50, body=[]), put(50, body=[1] * 1501)]:
            got = ask(opening(life=10), put(0), call, put(10), handing(10))
            self.assertEqual(got[3:], [[2], [1] + frame(1, YOU, ME)])

    def test_full_stands_behind_the_time(self):
        got = ask(opening(each=1), put(0), put(50), handing(49), handing(50))
        self.assertEqual([answer[0] for answer in got[2:]], [-5, -1, 1])

    def test_what_is_too_old_makes_room_first(self):
        got = ask(opening(each=1, life=10), put(0), put(10), put(11), put(21), put(22))
        self.assertEqual(got[1:], [[1], FULL, [1], FULL, [1]])

    def test_full_puts_nothing(self):
        got = ask(opening(each=1), put(body=[1]), put(body=[2]), handing(), went(), handing())
        self.assertEqual(got[2:], [FULL, [1] + frame(1, YOU, ME, [1]), [0], [0]])

    def test_only_full_is_counted(self):
        calls = [opening(each=1), put(), put(kind=-1), put(body=[1] * 1501), put(q=1), put(to=[]), put(body=[])]
        self.assertEqual(counted(*calls), {})
        self.assertEqual(counted(*calls, put()), {"refused_full": 1})
        self.assertEqual(counted(*calls, put(), put(9)), {"refused_full": 2})
