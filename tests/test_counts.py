"""Point 12: counts."""

import unittest

from tests.helper import (
    COUNTED,
    OTHER,
    ask,
    came,
    counts,
    drop,
    due,
    frame,
    handing,
    hear,
    join,
    last,
    leave,
    make,
    opening,
    put,
    put_long,
    read,
    waits,
    weight,
    went,
)

NONE = [0] * 11
DAMAGED = frame()[:-1] + [frame()[-1] ^ 1]


def told(place, number, place_too=None, number_too=0):
    """What counts answers where all but these, counted from 1 on, are 0."""
    expected = list(NONE)
    expected[place] = number
    if place_too is not None:
        expected[place_too] = number_too
    return expected


class EachByItself(unittest.TestCase):
    def check(self, expected, *calls):
        self.assertEqual(last(opening(each=4, life=10), *calls, counts()), expected)

    def test_none(self):
        self.check(NONE)

    def test_frames_that_went_and_their_bytes(self):
        self.check(told(1, 1, 2, 19), put(), handing(), went(0, 1))
        self.check(told(1, 2, 2, 1618), put_long(1518, 1), put_long(100, 2), *[handing(), went(0, 1)] * 2)

    def test_frames_handed_upward_and_their_bytes(self):
        self.check(told(3, 1, 4, 19), came(frame()))
        self.check(told(3, 3, 4, 1637), came(frame(body=[1] * 1500)), came(frame(body=[1] * 82)), came(frame(body=[1])))

    def test_bytes_that_were_no_frame(self):
        self.check(told(5, 1), came([]))
        self.check(told(5, 4), came(DAMAGED), came([1] * 18), came([1] * 1519), came(frame()[:-1]))

    def test_frames_not_for_this_end(self):
        self.check(told(6, 1), came(frame(to=OTHER)))
        self.check(told(6, 2), came(frame(to=OTHER, body=[1] * 1500)), came(frame(sender=[2, 0, 0, 0, 0, 1])))

    def test_dropped(self):
        self.check(told(7, 3), put(), put(), put(), drop(), drop())

    def test_refused_as_full(self):
        self.check(told(8, 2), *[put()] * 6)

    def test_grown_too_old(self):
        self.check(told(9, 2), put(0), put(5), waits(15), waits(16))
        for call in (put(16), handing(16), waits(16), due(16)):
            self.check(told(9, 2), put(0), put(5), call)
        self.check(told(9, 1, 10, 1), put(0), handing(0), put(0), went(11, 0))

    def test_not_taken(self):
        self.check(told(10, 3), put(), *[handing(), went(0, 0)] * 3)

    def test_a_frame_of_its_own_is_not_counted_before_it_goes(self):
        self.check(NONE, put(), handing(), handing(), put())


class Whole(unittest.TestCase):
    calls = [opening(each=3, life=10)]
    calls += [put_long(19 + k, k) for k in range(3)] + [put()] * 8
    calls += [handing(), went(0, 1), handing()] + [went(0, 0), handing()] * 10 + [went(0, 1)]
    calls += [came(frame(body=[1] * k)) for k in (1, 2, 3)] + [came([])] * 5 + [came(frame(to=OTHER))] * 6
    calls += [drop()] + [put(1)] * 3 + [drop()] + [put(1)] * 3 + [drop()] + [put(2)] * 3 + [waits(13)]
    calls += [put(14)] * 3 + [waits(25)] + [put(26)] * 3 + [due(37)]
    expected = [0, 2, 39, 3, 60, 5, 6, 7, 8, 9, 10]

    def test_all_ten_in_order(self):
        self.assertEqual(len(COUNTED), 10)
        self.assertEqual(last(*self.calls, counts()), self.expected)

    def test_asked_twice_it_is_the_same(self):
        self.assertEqual(ask(*self.calls, counts(), counts())[-2:], [self.expected] * 2)

    def test_ahead_of_the_first_opening(self):
        refused = [put(), handing(), went(), came([]), came(frame()), drop(), waits(), due(), opening(queues=0)]
        self.assertEqual(ask(counts(), *refused, counts())[:: len(refused) + 1], [NONE, NONE])
        self.assertEqual(last(*refused, opening(), counts()), NONE)

    def test_opened_anew_all_are_none(self):
        self.assertEqual(last(*self.calls, opening(), counts()), NONE)
        self.assertEqual(last(*self.calls, opening(), came([]), counts()), told(5, 1))

    def test_a_refused_opening_leaves_them(self):
        for refused in (opening(now=2**63), opening(each=65), opening(me=[])):
            self.assertEqual(last(*self.calls, refused, counts()), self.expected)

    def test_a_refused_call_counts_nothing_else(self):
        refused = [weight(9, 1), put(0), put(37, kind=-1), put(37, body=[]), put(37, body=[1] * 1501), handing(0)]
        refused += [went(0, 1), went(37, 1), went(37, 2), join([]), leave([1] * 6), hear(2), waits(0, 0), waits(37, 1)]
        refused += [drop(-1), drop(1), make(-1), make(body=[]), make(body=[1] * 1501), read([]), read(DAMAGED)]
        refused += [due(0), due(2**63), due(37)]
        got = ask(*self.calls, *refused, counts())
        self.assertTrue(all(answer[0] < 0 for answer in got[len(self.calls):-1]))
        self.assertEqual(got[-1], self.expected)

    def test_make_and_read_count_nothing(self):
        self.assertEqual(last(opening(), make(), read(frame()), read([]), read(frame(to=OTHER)), counts()), NONE)
