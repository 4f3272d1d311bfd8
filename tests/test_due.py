"""Point 15: due."""

import unittest

from tests.helper import (
    LAST_TIME,
    NOT_THERE,
    WRONG,
    ask,
    counted,
    drop,
    due,
    handing,
    last,
    opening,
    put,
    put_long,
    sent_marks,
    turn_after,
    waits,
    weight,
    went,
)

# Frames of 1518 bytes are the longest: with the least burst one of them spends all that may go.
SPENT = [put_long(1518, 1), handing(0), went(0, 1)]


class Neither(unittest.TestCase):
    def test_nothing_waits(self):
        for life in (0, 10):
            self.assertEqual(last(opening(queues=8, life=life, rate=5), due()), NOT_THERE)
            self.assertEqual(last(opening(life=life), put(), handing(), went(), due()), NOT_THERE)
            self.assertEqual(last(opening(life=life), put(), drop(), due()), NOT_THERE)

    def test_one_handed_out_alone(self):
        for life in (0, 10):
            self.assertEqual(last(opening(life=life), put(), handing(), due()), NOT_THERE)
            self.assertEqual(last(opening(life=life), put(), handing(), due(50)), NOT_THERE)

    def test_one_handed_out_with_others_that_may_wait_for_ever(self):
        calls = [opening(queues=2), put(), put(), put(0, 1), handing()]
        self.assertEqual(last(*calls, due()), NOT_THERE)
        self.assertEqual(last(*calls, went(0, 0), due()), [0, 0])

    def test_all_have_grown_too_old(self):
        self.assertEqual(last(opening(life=10), put(0), due(11)), NOT_THERE)
        self.assertEqual(last(opening(life=10), put(0), handing(0), went(11, 0), due(11)), NOT_THERE)

    def test_the_time_has_passed_all_the_same(self):
        got = ask(opening(life=10), put(0), due(50), handing(49), handing(50))
        self.assertEqual(got[2:], [NOT_THERE, WRONG, [0]])
        self.assertEqual(counted(opening(life=10), put(0), due(50)), {"grown_old": 1})


class Wrong(unittest.TestCase):
    def test_times(self):
        for now in (0, 4, 2**63, 2**64 - 1):
            self.assertEqual(last(opening(now=5), due(now)), WRONG, now)
            self.assertEqual(last(opening(now=5), put(5), due(now)), WRONG, now)
        for now in (5, LAST_TIME):
            self.assertEqual(last(opening(now=5), put(5), due(now)), [0, now])

    def test_refused_no_time_passes(self):
        calls = [opening(now=1, life=10), put(1), due(2**63), due(0), due(5)]
        self.assertEqual(last(*calls), [0, 5])


class MayGo(unittest.TestCase):
    def test_now(self):
        for rate in (0, 1, 1000):
            self.assertEqual(last(opening(rate=rate), put_long(1518, 1, now=3), due(7)), [0, 7])
            self.assertEqual(last(opening(rate=rate, life=100), put_long(1518, 1, now=3), due(7)), [0, 7])

    def test_later_at_the_very_millisecond(self):
        for rate, length, first in [(1000, 100, 100), (999, 100, 101), (3, 100, 33334), (1, 19, 19000), (7, 21, 3000),
                                    (19000, 19, 1), (18999, 19, 2), (2**32 - 1, 1518, 1)]:
            calls = [opening(rate=rate), *SPENT, put_long(length, 2)]
            self.assertEqual(last(*calls, due(0)), [0, first], rate)
            self.assertEqual(last(*calls, due(0), due(first - 1)), [0, first], rate)
            self.assertEqual(last(*calls, due(0), handing(first - 1)), [2, first], rate)
            self.assertEqual(last(*calls, due(0), handing(first))[0], 1, rate)
            self.assertEqual(last(*calls, due(first)), [0, first], rate)
            self.assertEqual(last(*calls, due(first + 5)), [0, first + 5], rate)

    def test_its_time_gains_what_may_go(self):
        calls = [opening(rate=1000), *SPENT, put_long(100, 2), due(30), due(60)]
        self.assertEqual(ask(*calls)[-2:], [[0, 100], [0, 100]])
        self.assertEqual(last(*calls, handing(99)), [2, 100])
        self.assertEqual(last(*calls, handing(100))[0], 1)

    def test_the_burst_is_still_the_most(self):
        calls = [opening(rate=1000), due(10**6), put_long(1518, 1, now=10**6), handing(10**6), went(10**6)]
        self.assertEqual(last(*calls, put_long(19, 2, now=10**6), due(10**6)), [0, 10**6 + 19])

    def test_what_is_not_taken_may_go_again_at_once(self):
        self.assertEqual(last(opening(rate=1), put_long(1518, 1), handing(0), went(4, 0), due(4)), [0, 4])

    def test_of_the_queue_whose_turn_it_will_be(self):
        calls = [opening(queues=2, rate=1000), *SPENT]
        # Of 1536 the first frame took 1518: 18 of credit are left to queue 0, and it has its share.
        self.assertEqual(last(*calls, put_long(300, 2), put_long(19, 3, q=1), due(0)), [0, 19])
        self.assertEqual(last(*calls, put_long(300, 2), put_long(257, 3, q=1), due(0)), [0, 257])
        self.assertEqual(last(*calls, put_long(270, 2), put_long(257, 3, q=1), due(0)), [0, 270])
        self.assertEqual(last(*calls, put_long(275, 2), put_long(513, 3, q=1), weight(1, 2), due(0)), [0, 513])
        self.assertEqual(last(*calls, put_long(275, 2), put_long(512, 3, q=1), weight(1, 2), due(0)), [0, 512])

    def test_a_time_beyond_the_last_may_be_named(self):
        now = LAST_TIME
        calls = [opening(now=now, rate=1), put_long(1518, 1, now=now), handing(now), went(now)]
        self.assertEqual(last(*calls, put_long(19, 2, now=now), due(now)), [0, now + 19000])


class TooOld(unittest.TestCase):
    calls = [opening(life=50, rate=1000), *SPENT]

    def test_before_it_may_go(self):
        got = ask(*self.calls, put_long(100, 2), due(0), due(50), waits(50), due(51), waits(51))
        self.assertEqual(got[5:], [[0, 51], [0, 51], [0, 1, 100, 50], NOT_THERE, [0, 0, 0, 0]])

    def test_after_it_may_go(self):
        self.assertEqual(last(*self.calls, put_long(30, 2), due(0)), [0, 30])
        self.assertEqual(last(*self.calls, put_long(30, 2), due(40)), [0, 40])

    def test_at_the_edge_between(self):
        for length, first in [(49, 49), (50, 50), (51, 51), (52, 51), (53, 51)]:
            self.assertEqual(last(*self.calls, put_long(length, 2), due(0)), [0, first], length)
        self.assertEqual(last(*self.calls, put_long(50, 2), handing(50))[0], 1)
        self.assertEqual(last(*self.calls, put_long(51, 2), handing(51)), [0])

    def test_the_first_of_all_queues(self):
        calls = [opening(queues=3, life=50, rate=1), *SPENT]
        calls += [put(4, 1), put(6, 0), put(7, 2), put(8, 1)]
        self.assertEqual(last(*calls, due(8)), [0, 55])
        self.assertEqual(last(*calls, due(54)), [0, 55])
        self.assertEqual(last(*calls, due(55)), [0, 57])
        self.assertEqual(last(*calls, due(57)), [0, 58])
        self.assertEqual(last(*calls, due(58)), [0, 59])
        self.assertEqual(last(*calls, due(59)), NOT_THERE)

    def test_of_another_queue_than_that_whose_turn_it_is(self):
        calls = [opening(queues=2, life=50, rate=1000), *SPENT, put_long(100, 2, now=0, q=1)]
        calls += [put_long(40, 3, now=30, q=0), put_long(19, 4, now=30, q=1)]
        self.assertEqual(last(*calls, due(30)), [0, 51])

    def test_not_of_one_handed_out(self):
        calls = [opening(queues=2, life=50), put(0), handing(0)]
        self.assertEqual(last(*calls, put(7), due(7)), [0, 58])
        self.assertEqual(last(*calls, put(7), due(57)), [0, 58])
        self.assertEqual(last(*calls, put(7), due(58)), NOT_THERE)
        self.assertEqual(last(*calls, put(7, 1), put(9), due(9)), [0, 58])
        self.assertEqual(last(*calls, put(7), went(9, 1), due(9)), [0, 9])

    def test_of_one_handed_out_of_a_later_queue(self):
        calls = [opening(queues=2, life=50), put(0, 1), handing(0), put(3, 0), put(5, 1)]
        self.assertEqual(last(*calls, due(5)), [0, 54])
        self.assertEqual(last(*calls, drop(0), due(5)), [0, 56])
        self.assertEqual(last(*calls, drop(0), drop(1), due(5)), NOT_THERE)

    def test_the_longest_life(self):
        calls = [opening(life=3600000), put(9), handing(9), put(9)]
        self.assertEqual(last(*calls, due(9)), [0, 3600010])

    def test_a_life_of_none(self):
        self.assertEqual(last(opening(rate=1), *SPENT, put(0), due(0)), [0, 19000])
        self.assertEqual(last(opening(rate=1), *SPENT, put(0), due(18999)), [0, 19000])
        self.assertEqual(last(opening(), put(0), handing(0), put(0), due(0)), NOT_THERE)


class TurnsStay(unittest.TestCase):
    def test_turn_share_and_credits(self):
        calls = [opening(queues=3, rate=1000), weight(2, 3), *SPENT, put_long(300, 2, q=2), put_long(900, 3, q=0)]
        before = turn_after(*calls)
        self.assertEqual(before, (0, True, [18, 0, 0]))
        for times in ([0], [0, 0, 0], [0, 5, 500]):
            self.assertEqual(turn_after(*calls, *[due(now) for now in times]), before)

    def test_at_first(self):
        self.assertEqual(turn_after(opening(queues=2), put(0, 1), due(), due()), (0, False, [0, 0]))

    def test_an_empty_queue_keeps_its_credit(self):
        calls = [opening(queues=2), put_long(100, 1), handing(), went(), put(0, 1), due()]
        self.assertEqual(turn_after(*calls), (0, True, [156, 0]))
        self.assertEqual(sent_marks(2, *calls, put_long(156, 3)), [3, 1])

    def test_what_goes_is_the_same_with_and_without(self):
        frames = [put_long(19 + 97 * k % 1500, k, q=k % 3) for k in range(24)]
        calls = [opening(queues=3), weight(1, 2), *frames]
        with_due = []
        for k in range(24):
            with_due += [due(), due(), handing(), due(), went(0, 1), due()]
        got = ask(*calls, *with_due)[len(calls) + 2 :: 6]
        marks = [answer[13] * 256 + answer[14] for answer in got]
        self.assertEqual(sorted(marks), list(range(24)))
        self.assertEqual(marks, sent_marks(24, *calls))

    def test_it_names_what_next_names(self):
        calls = [opening(queues=2, rate=1000), *SPENT]
        for length in (19, 200, 256, 257, 274, 275, 600, 1518):
            for other in (19, 256, 257, 1518):
                waiting = [*calls, put_long(length, 2), put_long(other, 3, q=1)]
                first = last(*waiting, handing(0))
                self.assertEqual(last(*waiting, due(0)), [0, first[1]])
                self.assertEqual(last(*waiting, due(0), handing(0)), first)
