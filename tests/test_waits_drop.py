"""Points 10 and 11: waits and drop."""

import unittest

from tests.helper import (
    FULL,
    INT_MAX,
    INT_MIN,
    LAST_TIME,
    NOT_NOW,
    WRONG,
    ask,
    counted,
    drop,
    handing,
    last,
    opening,
    put,
    put_long,
    sent_marks,
    turn_after,
    waits,
    went,
)


class Waits(unittest.TestCase):
    def test_none(self):
        self.assertEqual(last(opening(), waits()), [0, 0, 0, 0])
        self.assertEqual(last(opening(now=5), waits(LAST_TIME)), [0, 0, 0, 0])
        self.assertEqual(last(opening(), put(0), handing(0), went(0, 1), waits(9)), [0, 0, 0, 0])

    def test_frames_bytes_and_age(self):
        calls = [opening(now=3), put_long(19, 1, now=5), put_long(1518, 2, now=8), put_long(100, 3, now=8)]
        self.assertEqual(last(*calls, waits(8)), [0, 3, 1637, 3])
        self.assertEqual(last(*calls, waits(1005)), [0, 3, 1637, 1000])
        self.assertEqual(last(*calls, waits(LAST_TIME)), [0, 3, 1637, LAST_TIME - 5])
        self.assertEqual(last(*calls[:2], waits(5)), [0, 1, 19, 0])

    def test_each_queue_by_itself(self):
        calls = [opening(queues=3), put_long(30, 1, now=1, q=1), put_long(40, 2, now=2, q=2), put_long(50, 3, now=4, q=1)]
        got = ask(*calls, waits(10, 0), waits(10, 1), waits(10, 2))[4:]
        self.assertEqual(got, [[0, 0, 0, 0], [0, 2, 80, 9], [0, 1, 40, 8]])

    def test_no_such_queue(self):
        for queues in (1, 8):
            self.assertEqual(last(opening(queues=queues), waits(0, queues - 1)), [0, 0, 0, 0])
            for q in (-1, queues, INT_MIN, INT_MAX):
                self.assertEqual(last(opening(queues=queues), waits(0, q)), WRONG, (queues, q))

    def test_times(self):
        for now in (0, 6, 2**63, 2**64 - 1):
            self.assertEqual(last(opening(now=5), put(7), waits(now)), WRONG, now)
        self.assertEqual(last(opening(now=5), put(7), waits(7)), [0, 1, 19, 0])

    def test_its_time_passes(self):
        got = ask(opening(rate=1000), put_long(1518, 1), handing(0), went(0), put_long(100, 2), waits(50), handing(49),
                  handing(50), handing(100))
        self.assertEqual([answer[0] for answer in got[6:]], [-1, 2, 1])
        self.assertEqual(got[7], [2, 100])

    def test_refused_no_time_passes(self):
        calls = [opening(life=10), put(0), waits(50, 1), waits(50, -1), waits(2**63, 0), waits(10)]
        self.assertEqual(last(*calls), [0, 1, 19, 10])
        self.assertEqual(counted(*calls), {})

    def test_what_is_too_old_is_gone_first(self):
        calls = [opening(queues=2, life=10), put(0), put_long(50, 2, now=4), put(0 + 4, 1)]
        self.assertEqual(last(*calls, waits(10)), [0, 2, 69, 10])
        self.assertEqual(last(*calls, waits(11)), [0, 1, 50, 7])
        self.assertEqual(last(*calls, waits(14)), [0, 1, 50, 10])
        self.assertEqual(last(*calls, waits(15)), [0, 0, 0, 0])
        self.assertEqual(counted(*calls, waits(15)), {"grown_old": 3})

    def test_one_handed_out_still_waits(self):
        calls = [opening(life=10), put_long(60, 1), put_long(50, 2, now=5), handing(5)]
        self.assertEqual(last(*calls, waits(5)), [0, 2, 110, 5])
        self.assertEqual(last(*calls, waits(16)), [0, 1, 60, 16])
        self.assertEqual(last(*calls, went(5, 0), waits(5)), [0, 2, 110, 5])
        self.assertEqual(last(*calls, went(5, 1), waits(5)), [0, 1, 50, 0])

    def test_one_not_taken_has_waited_since_it_was_put(self):
        self.assertEqual(last(opening(), put(3), handing(5), went(7, 0), waits(9)), [0, 1, 19, 6])

    def test_moves_no_turn(self):
        calls = [opening(queues=2), put(0, 1)]
        self.assertEqual(turn_after(*calls, waits(0, 1), waits(0, 0)), (0, False, [0, 0]))


class Drop(unittest.TestCase):
    three = [put_long(20, 1), put_long(30, 2), put_long(40, 3)]

    def test_all_of_the_queue(self):
        got = ask(opening(), *self.three, drop(), waits(), drop(), handing())
        self.assertEqual(got[4:], [[3], [0, 0, 0, 0], [0], [0]])

    def test_an_empty_queue(self):
        self.assertEqual(last(opening(), drop()), [0])
        self.assertEqual(last(opening(queues=2), put(0, 0), drop(1)), [0])

    def test_the_other_queues_stay(self):
        calls = [opening(queues=3)] + [put(0, q) for q in (0, 1, 1, 2)]
        got = ask(*calls, drop(1), waits(0, 0), waits(0, 1), waits(0, 2))
        self.assertEqual(got[5:], [[2], [0, 1, 19, 0], [0, 0, 0, 0], [0, 1, 19, 0]])

    def test_no_such_queue(self):
        for queues in (1, 8):
            self.assertEqual(last(opening(queues=queues), put(0, queues - 1), drop(queues - 1)), [1])
            for q in (-1, queues, INT_MIN, INT_MAX):
                got = ask(opening(queues=queues), put(), drop(q), waits(), drop(0))
                self.assertEqual(got[2:], [WRONG, [0, 1, 19, 0], [1]], (queues, q))

    def test_one_handed_out_stays(self):
        got = ask(opening(), *self.three, handing(), drop(), waits(), drop(), handing())
        self.assertEqual(got[5:], [[2], [0, 1, 20, 0], [0], NOT_NOW])

    def test_one_handed_out_can_still_go(self):
        calls = [opening(), *self.three, handing(), drop(), went(0, 1)]
        self.assertEqual(ask(*calls, waits(), went())[6:], [[0], [0, 0, 0, 0], NOT_NOW])
        self.assertEqual(counted(*calls), {"dropped": 2, "sent_frames": 1, "sent_bytes": 20})

    def test_one_handed_out_can_still_be_not_taken(self):
        calls = [opening(), *self.three, handing(), drop(), went(0, 0)]
        got = ask(*calls, handing())
        self.assertEqual(got[-1], got[4])
        self.assertEqual(ask(*calls, drop(), handing())[-2:], [[1], [0]])
        self.assertEqual(counted(*calls), {"dropped": 2, "not_taken": 1})

    def test_one_handed_out_of_another_queue(self):
        calls = [opening(queues=2), put_long(20, 1, q=1), handing(), put_long(30, 2, q=0), put_long(40, 3, q=1)]
        got = ask(*calls, drop(0), waits(0, 0), waits(0, 1), went(0, 1), waits(0, 1))
        self.assertEqual(got[5:], [[1], [0, 0, 0, 0], [0, 2, 60, 0], [0], [0, 1, 40, 0]])
        got = ask(*calls, drop(1), waits(0, 0), waits(0, 1), went(0, 1), waits(0, 1))
        self.assertEqual(got[5:], [[1], [0, 1, 30, 0], [0, 1, 20, 0], [0], [0, 0, 0, 0]])

    def test_makes_room(self):
        got = ask(opening(each=2), put(), put(), put(), drop(), put(), put(), put())
        self.assertEqual(got[3:], [FULL, [2], [1], [2], FULL])
        got = ask(opening(each=2), put(), put(), handing(), drop(), put(), put())
        self.assertEqual(got[4:], [[1], [2], FULL])

    def test_what_is_counted(self):
        calls = [opening(queues=2), *self.three, put(0, 1)]
        self.assertEqual(counted(*calls, drop(2), drop(-1)), {})
        self.assertEqual(counted(*calls, drop(0)), {"dropped": 3})
        self.assertEqual(counted(*calls, drop(0), drop(0), drop(1)), {"dropped": 4})

    def test_no_time_passes(self):
        got = ask(opening(life=10), put(0), put(9), handing(9), drop(0), went(9, 0), waits(9))
        self.assertEqual(got[4:], [[1], [0], [0, 1, 19, 9]])

    def test_what_is_gone_with_drop_is_not_too_old_later(self):
        self.assertEqual(counted(opening(life=10), put(0), drop(), waits(50)), {"dropped": 1})

    def test_turn_and_credit_stay(self):
        calls = [opening(queues=2), put_long(100, 1), put_long(19, 2), handing(), went()]
        self.assertEqual(turn_after(*calls, drop(0)), (0, True, [156, 0]))
        self.assertEqual(sent_marks(2, *calls, drop(0), put_long(156, 3), put_long(19, 4, q=1)), [3, 4])
        self.assertEqual(sent_marks(2, *calls, drop(0), put_long(157, 3), put_long(19, 4, q=1)), [4, 3])

    def test_what_is_dropped_does_not_cost_the_pace(self):
        calls = [opening(rate=1), put_long(1518, 1), drop(), put_long(1518, 2), handing()]
        self.assertEqual(last(*calls)[0], 1)
