"""Points 4 and 5: next and went; frames that grow too old, and the pace."""

import unittest

from tests.helper import (
    INT_MAX,
    INT_MIN,
    LAST_TIME,
    ME,
    NOT_NOW,
    WRONG,
    YOU,
    ask,
    counted,
    frame,
    handing,
    last,
    opening,
    put,
    put_long,
    sent_marks,
    went,
)

# Frames of 1518 bytes are the longest: with the least burst one of them spends all that may go.
SPENT = [put_long(1518, 1), handing(0), went(0, 1)]


def firsts(got):
    return [answer[0] for answer in got]


class Next(unittest.TestCase):
    def test_none_waits(self):
        self.assertEqual(ask(opening(queues=8), handing(0), handing(LAST_TIME)), [[0], [0], [0]])

    def test_a_frame_of_a_later_queue(self):
        for q in range(8):
            self.assertEqual(last(opening(queues=8), put(q=q), handing()), [1] + frame(1, YOU, ME))

    def test_one_at_a_time(self):
        got = ask(opening(), put(), put(), handing(), handing(), went(), handing())
        self.assertEqual(firsts(got[3:]), [1, -4, 0, 1])

    def test_wrong_ahead_of_not_now(self):
        for now in (4, 2**63):
            self.assertEqual(last(opening(now=5), put(5), handing(5), handing(now)), WRONG)

    def test_not_now_stands_ahead_of_the_time(self):
        got = ask(opening(life=10), put(0), put(0), handing(0), handing(50), went(10, 1), handing(10))
        self.assertEqual(firsts(got[3:]), [1, -4, 0, 1])

    def test_what_is_handed_out_is_handed_out_once_gone(self):
        got = ask(opening(), put(body=[1]), put(body=[2]), handing(), went(0, 1), handing(), went(0, 1), handing())
        self.assertEqual([got[3], got[5], got[7]], [[1] + frame(1, YOU, ME, [1]), [1] + frame(1, YOU, ME, [2]), [0]])


class Went(unittest.TestCase):
    def test_none_is_handed_out(self):
        for ok in (0, 1):
            self.assertEqual(last(opening(), went(0, ok)), NOT_NOW)
            self.assertEqual(last(opening(), put(), went(0, ok)), NOT_NOW)
            self.assertEqual(last(opening(), put(), put(), handing(), went(0, ok), went(0, ok)), NOT_NOW)

    def test_none_is_handed_out_where_it_may_only_go_later(self):
        got = ask(opening(rate=1), *SPENT, put(), handing(), went())
        self.assertEqual(firsts(got[5:]), [2, -4])

    def test_bounds_of_ok(self):
        for ok in (-1, 2, INT_MIN, INT_MAX):
            got = ask(opening(), put(), handing(), went(0, ok), handing(), went(0, 1))
            self.assertEqual(got[3:], [WRONG, NOT_NOW, [0]], ok)
            self.assertEqual(last(opening(), went(0, ok)), WRONG, ok)

    def test_wrong_ahead_of_not_now(self):
        self.assertEqual(last(opening(now=5), went(4, 1)), WRONG)
        self.assertEqual(last(opening(now=5), went(2**63, 1)), WRONG)

    def test_refused_no_time_passes(self):
        got = ask(opening(life=10), put(0), went(50, 1), handing(10), went(50, 2), went(2**63, 1), went(10, 1))
        self.assertEqual(firsts(got[2:]), [-4, 1, -1, -1, 0])

    def test_its_time_passes(self):
        got = ask(opening(), put(0), handing(0), went(50, 1), handing(49), handing(50))
        self.assertEqual(got[3:], [[0], WRONG, [0]])

    def test_not_taken_it_waits_as_before(self):
        got = ask(opening(rate=1), put_long(1518, 7), handing(), went(0, 0), put(), handing(), went(0, 0), handing())
        self.assertEqual(got[4], [2])
        self.assertEqual(got[2], got[5])
        self.assertEqual(got[2], got[7])

    def test_what_is_counted(self):
        calls = [opening(), put_long(100, 1), put_long(19, 2), handing(), went(0, 1)]
        self.assertEqual(counted(*calls), {"sent_frames": 1, "sent_bytes": 100})
        self.assertEqual(counted(*calls, handing(), went(0, 1)), {"sent_frames": 2, "sent_bytes": 119})
        more = {"sent_frames": 1, "sent_bytes": 100, "not_taken": 2}
        self.assertEqual(counted(*calls, handing(), went(0, 0), handing(), went(0, 0)), more)

    def test_refused_nothing_is_counted(self):
        self.assertEqual(counted(opening(), went(0, 0), went(0, 1), put(), handing(), went(0, 2), went(2**63, 0)), {})


class Life(unittest.TestCase):
    def test_at_its_edge(self):
        for life in (1, 10, 3600000):
            self.assertEqual(last(opening(life=life), put(5), handing(5 + life))[0], 1)
            self.assertEqual(last(opening(life=life), put(5), handing(6 + life)), [0])

    def test_none(self):
        self.assertEqual(last(opening(life=0), put(0), handing(LAST_TIME))[0], 1)

    def test_each_frame_has_its_own(self):
        calls = [opening(life=10)] + [put(now, body=[now]) for now in (0, 3, 3, 6)]
        self.assertEqual(last(*calls, handing(10)), [1] + frame(1, YOU, ME, [0]))
        self.assertEqual(last(*calls, handing(13)), [1] + frame(1, YOU, ME, [3]))
        self.assertEqual(last(*calls, handing(14)), [1] + frame(1, YOU, ME, [6]))
        self.assertEqual(last(*calls, handing(17)), [0])
        self.assertEqual(last(*calls, put(14)), [2])

    def test_in_all_queues(self):
        calls = [opening(queues=8, life=10)] + [put(0, q) for q in range(8)]
        self.assertEqual(last(*calls, handing(11)), [0])
        self.assertEqual(counted(*calls, put(11, 0)), {"grown_old": 8})
        self.assertEqual(last(*calls, put(11, 0), put(11, 7)), [1])

    def test_one_handed_out_stays_and_those_behind_it_go(self):
        calls = [opening(life=10), put(0, body=[1]), put(0, body=[2]), put(9, body=[3]), handing(9)]
        self.assertEqual(last(*calls, put(11)), [3])
        self.assertEqual(last(*calls, put(20)), [2])
        got = ask(*calls, went(20, 1), put(20))
        self.assertEqual(got[-2:], [[0], [1]])
        self.assertEqual(counted(*calls, put(11)), {"grown_old": 1})
        self.assertEqual(counted(*calls, put(20)), {"grown_old": 2})

    def test_one_handed_out_in_a_later_queue(self):
        calls = [opening(queues=2, life=10), put(0, 1), handing(0), put(0, 0)]
        self.assertEqual(last(*calls, put(11, 1)), [2])
        self.assertEqual(last(*calls, put(11, 0)), [1])
        self.assertEqual(last(*calls, put(50, 1), went(60, 1), put(60, 1)), [2])

    def test_one_handed_out_may_go_however_old(self):
        calls = [opening(life=10), put_long(100, 1), handing(0)]
        self.assertEqual(counted(*calls, went(1000, 1)), {"sent_frames": 1, "sent_bytes": 100})

    def test_too_old_and_not_taken_it_is_gone_at_the_next_time(self):
        calls = [opening(life=10), put(0), handing(0), went(11, 0)]
        self.assertEqual(last(*calls, handing(11)), [0])
        self.assertEqual(last(*calls, put(11)), [1])
        self.assertEqual(counted(*calls), {"not_taken": 1})
        self.assertEqual(counted(*calls, handing(11)), {"not_taken": 1, "grown_old": 1})
        self.assertEqual(last(*calls[:3], went(10, 0), handing(10))[0], 1)

    def test_the_first_grows_too_old_while_it_waits_for_the_pace(self):
        calls = [opening(life=10, rate=1000), *SPENT, put_long(100, 2, now=0), put_long(19, 3, now=5)]
        self.assertEqual(last(*calls, handing(10)), [2, 100])
        self.assertEqual(last(*calls, handing(11)), [2, 19])
        self.assertEqual(last(*calls, handing(11), handing(16)), [0])


class Pace(unittest.TestCase):
    def test_at_the_very_millisecond(self):
        for rate, length, first in [(1000, 100, 100), (999, 100, 101), (3, 100, 33334), (1, 19, 19000), (7, 21, 3000),
                                    (19000, 19, 1), (19001, 19, 1), (18999, 19, 2), (2**32 - 1, 1518, 1)]:
            calls = [opening(rate=rate), *SPENT, put_long(length, 2)]
            self.assertEqual(last(*calls, handing(0)), [2, first], rate)
            self.assertEqual(last(*calls, handing(0), handing(first - 1)), [2, first], rate)
            self.assertEqual(last(*calls, handing(first - 1)), [2, first], rate)
            self.assertEqual(last(*calls, handing(first))[0], 1, rate)
            self.assertEqual(last(*calls, handing(0), handing(first))[0], 1, rate)

    def test_all_the_burst_may_go_at_first(self):
        self.assertEqual(last(opening(rate=1), put_long(1518, 1), handing())[0], 1)
        exact = [opening(rate=1000, burst=1537), *SPENT]
        self.assertEqual(last(*exact, put_long(19, 2), handing())[0], 1)
        self.assertEqual(last(*exact, put_long(20, 2), handing()), [2, 1])

    def test_burst_is_the_most_that_may_go(self):
        calls = [opening(rate=1000, burst=2000), handing(10**9), put_long(1518, 1, now=10**9), handing(10**9)]
        calls += [went(10**9)]
        self.assertEqual(last(*calls, put_long(482, 2, now=10**9), handing(10**9))[0], 1)
        self.assertEqual(last(*calls, put_long(483, 2, now=10**9), handing(10**9)), [2, 10**9 + 1])

    def test_burst_is_the_most_also_behind_a_wait(self):
        calls = [opening(rate=1000), *SPENT]
        for now in (1518, 1519, 10**6, LAST_TIME):
            full = [*calls, put_long(1518, 2, now=now), handing(now), went(now), put_long(19, 3, now=now)]
            self.assertEqual(last(*full, handing(now)), [2, now + 19])

    def test_the_most_is_reached_before_the_frame_has_gone(self):
        calls = [opening(rate=1000), put_long(100, 1), handing(0), went(500), put_long(1500, 2, now=500)]
        self.assertEqual(last(*calls, handing(500)), [2, 582])

    def test_what_may_go_grows_with_every_call_that_has_a_time(self):
        calls = [opening(rate=1000, each=2), *SPENT, put_long(100, 2)]
        calls += [put_long(100, 3, now=20), put_long(100, 4, now=50), handing(70)]
        self.assertEqual(ask(*calls)[-3:], [[2], [-5], [2, 100]])
        self.assertEqual(last(*calls, handing(99)), [2, 100])
        out = [*calls, handing(100), went(130, 0), handing(130), went(130, 1), handing(130)]
        self.assertEqual(last(*out), [2, 200])

    def test_what_is_not_taken_costs_nothing(self):
        calls = [opening(rate=1), put_long(1518, 1)] + [handing(), went(0, 0)] * 5
        self.assertEqual(last(*calls, handing())[0], 1)

    def test_no_pace(self):
        calls = [opening(rate=0)] + [put_long(1518, k) for k in range(8)]
        self.assertEqual(sent_marks(9, *calls), list(range(8)))

    def test_only_the_length_of_the_first_counts(self):
        calls = [opening(rate=1000, burst=1600), *SPENT, put_long(83, 2), put_long(19, 3)]
        self.assertEqual(last(*calls, handing()), [2, 1])

    def test_a_time_beyond_the_last_may_be_named(self):
        now = LAST_TIME
        calls = [opening(now=now, rate=1), put_long(1518, 1, now=now), handing(now), went(now)]
        self.assertEqual(last(*calls, put_long(19, 2, now=now), handing(now)), [2, now + 19000])
