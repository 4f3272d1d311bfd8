"""Whose turn it is: credits, shares and weights among several queues."""

import unittest

from tests.helper import ask, handing, last, opening, put_long, sent_marks, turn_after, weight, went


def fill(q, length, how_many):
    """So many frames in the queue, marked 100 times the queue on."""
    return [put_long(length, 100 * q + k, q=q) for k in range(how_many)]


def queues_of(marks):
    return [mark // 100 for mark in marks]


def go():
    return [handing(0), went(0, 1)]


class Turns(unittest.TestCase):
    def check(self, calls, expected):
        self.assertEqual(queues_of(sent_marks(len(expected), *calls)), expected)

    def test_frames_of_one_share(self):
        self.check([opening(queues=2), *fill(0, 256, 3), *fill(1, 256, 3)], [0, 1, 0, 1, 0, 1])

    def test_one_byte_more_than_a_share(self):
        self.check([opening(queues=2), *fill(0, 257, 3), *fill(1, 256, 3)], [1, 0, 1, 0, 1, 0])

    def test_what_is_left_of_a_share_is_kept(self):
        calls = [opening(queues=2), *fill(0, 100, 10), *fill(1, 100, 10)]
        self.check(calls, [0, 0, 1, 1, 0, 0, 0, 1, 1, 1, 0, 0, 1, 1, 0, 0, 0, 1, 1, 1])

    def test_in_a_queue_the_order_stays(self):
        marks = sent_marks(6, opening(queues=2), *fill(0, 100, 3), *fill(1, 100, 3))
        self.assertEqual(marks, [0, 1, 100, 101, 2, 102])

    def test_different_weights(self):
        calls = [opening(queues=3), weight(0, 2), weight(2, 3)]
        calls += fill(0, 256, 5) + fill(1, 256, 5) + fill(2, 256, 7)
        self.check(calls, [0, 0, 1, 2, 2, 2, 0, 0, 1, 2, 2, 2, 0, 1, 2, 1, 1])

    def test_the_highest_weight(self):
        calls = [opening(queues=2), weight(1, 64), *fill(0, 256, 2), *fill(1, 1518, 8)]
        self.check(calls, [0] + [1] * 8 + [0])

    def test_the_highest_weight_is_all_told(self):
        calls = [opening(queues=2), weight(0, 64), put_long(1518, 1), handing(0), went(0, 1)]
        self.assertEqual(turn_after(*calls)[2][0], 64 * 256 - 1518)

    def test_frames_longer_than_a_share(self):
        calls = [opening(queues=2), *fill(0, 1518, 2), *fill(1, 256, 12)]
        self.check(calls, [1] * 5 + [0] + [1] * 6 + [0] + [1])

    def test_a_long_frame_alone_gathers_its_credit(self):
        for queues in (1, 8):
            self.check([opening(queues=queues), *fill(queues - 1, 1518, 3)], [queues - 1] * 3)

    def test_empty_queues_between(self):
        calls = [opening(queues=8), *fill(2, 256, 3), *fill(5, 256, 3), *fill(7, 256, 2)]
        self.check(calls, [2, 5, 7, 2, 5, 7, 2, 5])

    def test_behind_the_last_the_first(self):
        calls = [opening(queues=3), *fill(2, 256, 1), *go(), *fill(0, 256, 1), *fill(1, 256, 1)]
        self.check(calls, [0, 1])

    def test_an_empty_queue_passed_over_loses_its_credit(self):
        calls = [opening(queues=2), *fill(0, 200, 1), *fill(1, 256, 1), *go(), *go()]
        self.assertEqual(turn_after(*calls[:-2])[2][0], 56)
        self.assertEqual(turn_after(*calls)[2], [0, 0])
        self.check([*calls, *fill(0, 257, 1), *fill(1, 256, 1)], [1, 0])

    def test_a_queue_that_is_filled_again_in_its_turn_keeps_its_credit(self):
        calls = [opening(queues=2), *fill(0, 200, 1), *go(), handing(0)]
        self.check([*calls, *fill(1, 19, 1), *fill(0, 56, 1)], [0, 1])
        self.check([*calls, *fill(1, 19, 1), *fill(0, 57, 1)], [1, 0])

    def test_a_turn_begun_later_starts_where_it_was(self):
        calls = [opening(queues=3), *fill(1, 256, 1), *go(), *fill(0, 256, 1), *fill(2, 256, 1)]
        self.check(calls, [2, 0])

    def test_a_weight_changed_while_there_is_credit(self):
        calls = [opening(queues=2), *fill(0, 200, 7), *fill(1, 256, 3), *go(), weight(0, 3)]
        self.assertEqual(turn_after(*calls)[2][0], 56)
        self.check(calls, [1, 0, 0, 0, 0, 1, 0, 0, 1])

    def test_a_weight_lessened_while_there_is_credit(self):
        calls = [opening(queues=2), weight(0, 4), *fill(0, 256, 6), *fill(1, 256, 3), *go(), weight(0, 1)]
        self.check(calls, [0, 0, 0, 1, 0, 1, 0, 1])

    def test_not_taken_it_stays_its_turn_with_its_credit(self):
        calls = [opening(queues=2), *fill(0, 256, 2), *fill(1, 256, 2), handing(0), went(0, 0), handing(0), went(0, 0)]
        self.assertEqual(turn_after(*calls)[2][0], 256)
        self.check(calls, [0, 1, 0, 1])

    def test_a_frame_that_may_go_later_keeps_its_turn(self):
        calls = [opening(queues=2, rate=1000), put_long(1518, 1), *go(), *fill(0, 300, 2), *fill(1, 19, 2)]
        # 1536 of credit less 1518: 18 are left, so queue 1 is next with its two short frames.
        got = ask(*calls, handing(0), handing(0), handing(18))[-3:]
        self.assertEqual(got, [[2, 19], [2, 19], [2, 19]])
        self.assertEqual(turn_after(*calls, handing(0), handing(0))[2][1], 256)
        got = last(*calls, handing(0), put_long(19, 9, q=0), handing(19))
        self.assertEqual(got[13] * 256 + got[14], 100)

    def test_the_turn_is_settled_by_the_first_frame_alone(self):
        calls = [opening(queues=2), put_long(300, 1, q=0), put_long(19, 2, q=0), *fill(1, 256, 2)]
        self.assertEqual(sent_marks(4, *calls), [100, 1, 2, 101])

    def test_a_frame_grown_too_old_leaves_the_credit(self):
        calls = [opening(queues=2, life=10, rate=1000), put_long(1518, 1), *go()]
        calls += [put_long(200, 2, now=0, q=1), handing(0), put_long(250, 3, now=9, q=1), handing(11)]
        self.assertEqual(ask(*calls)[-1], [2, 250])
        self.assertEqual(turn_after(*calls)[2][1], 256)

    def test_put_and_weight_move_no_turn(self):
        self.assertEqual(turn_after(opening(queues=2), *fill(1, 256, 1), weight(1, 5)), (0, False, [0, 0]))
