"""Points 1 and 2: open and weight; and what stands ahead of them on -1."""

import unittest

from tests.helper import (
    EVERYBODY,
    FULL,
    INT_MAX,
    INT_MIN,
    LAST_TIME,
    ME,
    NOT_NOW,
    NOT_THERE,
    OTHER,
    WRONG,
    YOU,
    ask,
    came,
    counted,
    counts,
    drop,
    due,
    end_after,
    frame,
    group,
    handing,
    hear,
    join,
    last,
    leave,
    make,
    opening,
    put,
    put_long,
    read,
    sent_marks,
    waits,
    weight,
    went,
)


class Bounds(unittest.TestCase):
    def check(self, name, taken, refused):
        for value in taken:
            self.assertEqual(ask(opening(**{name: value})), [[0]], (name, value))
        for value in refused:
            self.assertEqual(ask(opening(**{name: value})), [WRONG], (name, value))

    def test_now(self):
        self.check("now", [0, 1, LAST_TIME], [LAST_TIME + 1, 2**64 - 1])

    def test_queues(self):
        self.check("queues", range(1, 9), [0, 9, -1, INT_MIN, INT_MAX])

    def test_each(self):
        self.check("each", [1, 2, 63, 64], [0, 65, -1, INT_MIN, INT_MAX])

    def test_life(self):
        self.check("life", [0, 1, 3600000], [-1, 3600001, INT_MIN, INT_MAX])

    def test_rate(self):
        self.check("rate", [0, 1, 2**32 - 1], [-1, 2**32, -(2**63), 2**63 - 1])

    def test_burst(self):
        self.check("burst", [1518, 1519, 16777216], [0, 1517, 16777217, -1518, INT_MIN, INT_MAX])

    def test_me(self):
        near = [255, 255, 255, 255, 255, 254]
        self.check("me", [ME, [0] * 6, near, near[::-1]], [EVERYBODY, [], [1] * 5, [1] * 7, [255] * 5, [255] * 7])
        self.check("me", [], [[1] * 12, [1] * 15900])

    def test_a_refused_opening_opens_nothing(self):
        self.assertEqual(ask(opening(queues=0), handing(0)), [WRONG, WRONG])


class NotOpen(unittest.TestCase):
    def test_all_is_refused_before_opening(self):
        calls = [weight(0, 1), put(), handing(), went(), came(frame()), came([1]), join(group(1)), leave(group(1))]
        calls += [hear(0), hear(1), waits(), drop(), due()]
        for call in calls:
            self.assertEqual(ask(call), [WRONG], call)
            self.assertEqual(ask(call, opening(), handing()), [WRONG, [0], [0]], call)

    def test_is_told_ahead_of_other_refusals(self):
        for call in [put(body=[1] * 1501), went(0, 1), came([]), leave(group(1)), due(0)]:
            self.assertEqual(ask(call), [WRONG], call)

    def test_after_a_refused_opening_too(self):
        for call in [weight(0, 1), hear(1), waits(), drop(), due(), came(frame()), join(group(1))]:
            self.assertEqual(ask(opening(queues=0), call), [WRONG, WRONG], call)

    def test_counts_make_and_read_are_answered(self):
        for before in ([], [opening(each=0)]):
            got = ask(*before, counts(), make(), read(frame()))[len(before):]
            self.assertEqual(got, [[0] * 11, [19] + frame(1, YOU, ME), [1] + ME + YOU + [1]])


class NewInAll(unittest.TestCase):
    def test_frames_and_the_one_handed_out(self):
        got = ask(opening(), put(), put(), handing(), opening(), went(), handing(), put())
        self.assertEqual(got[4:], [[0], NOT_NOW, [0], [1]])

    def test_time_may_go_back_and_is_the_new_one(self):
        got = ask(opening(now=100), handing(99), opening(now=50), handing(49), handing(50))
        self.assertEqual(got, [[0], WRONG, [0], WRONG, [0]])
        self.assertEqual(ask(opening(now=5), opening(now=LAST_TIME), handing(5)), [[0], [0], WRONG])

    def test_groups(self):
        got = ask(opening(), join(group(1)), opening(), leave(group(1)), came(frame(to=group(1))))
        self.assertEqual(got[2:], [[0], NOT_THERE, [0]])

    def test_what_may_go(self):
        spent = [opening(rate=1), put_long(1518, 1), handing(), went()]
        self.assertEqual(last(*spent, put_long(19, 2), handing()), [2, 19000])
        self.assertEqual(last(*spent, opening(rate=1), put_long(1518, 2), handing())[0], 1)
        self.assertEqual(last(*spent, opening(rate=0), put_long(1518, 2), handing())[0], 1)

    def test_weights_credits_and_turn(self):
        before = [opening(queues=2), weight(0, 64), put_long(256, 9, q=0), put_long(256, 8, q=1)]
        before += [handing(), went(), handing(), went(), opening(queues=2)]
        frames = [put_long(256, 10 + k, q=0) for k in range(2)] + [put_long(256, 20 + k, q=1) for k in range(2)]
        self.assertEqual(sent_marks(4, *before, *frames), [10, 20, 11, 21])

    def test_the_settings(self):
        got = ask(opening(queues=8, each=2, life=5), opening(queues=1, each=1), put(0, 1), put(0, 0), put(0, 0))
        self.assertEqual(got[2:], [WRONG, [1], FULL])
        self.assertEqual(last(opening(life=5), opening(), put(0), handing(6))[0], 1)
        self.assertEqual(last(opening(), opening(life=5), put(0), handing(6)), [0])

    def test_the_address(self):
        got = ask(opening(me=ME), opening(me=OTHER), came(frame(to=ME)), came(frame(to=OTHER)), put(), handing())
        self.assertEqual(got[2], [0])
        self.assertEqual(got[3][0], 1)
        self.assertEqual(got[5], [1] + frame(1, YOU, OTHER))

    def test_what_was_counted(self):
        before = [opening(each=1), put(), put(), came([1]), came(frame(to=OTHER)), came(frame())]
        before += [handing(), went(0, 0), handing(), went(0, 1)]
        self.assertEqual(len(counted(*before)), 8)
        self.assertEqual(counted(*before, opening()), {})

    def test_a_refused_opening_leaves_the_end_as_it_was(self):
        for refused in [opening(now=2**63), opening(queues=9), opening(each=0), opening(life=-1), opening(rate=-1),
                        opening(burst=1), opening(me=EVERYBODY), opening(me=[])]:
            calls = [opening(now=7, queues=2, each=2), join(group(1)), put(8, 1), put(8, 1), handing(8)]
            got = ask(*calls, refused, handing(7), handing(8), put(8, 1), leave(group(1)), went(8, 1))
            self.assertEqual(got[5:], [WRONG, WRONG, NOT_NOW, FULL, [0], [0]], refused)


class Weight(unittest.TestCase):
    def test_bounds_of_the_weight(self):
        for w in (1, 2, 63, 64):
            self.assertEqual(last(opening(), weight(0, w)), [0], w)
        for w in (0, 65, -1, INT_MIN, INT_MAX):
            self.assertEqual(last(opening(), weight(0, w)), WRONG, w)

    def test_bounds_of_the_queue(self):
        for queues in (1, 3, 8):
            self.assertEqual(last(opening(queues=queues), weight(0, 2)), [0])
            self.assertEqual(last(opening(queues=queues), weight(queues - 1, 2)), [0])
            for q in (queues, -1, INT_MIN, INT_MAX):
                self.assertEqual(last(opening(queues=queues), weight(q, 2)), WRONG, (queues, q))

    def test_is_one_at_first(self):
        self.assertEqual([queue.weight for queue in end_after(opening(queues=3)).queues], [1, 1, 1])

    def test_is_that_queues_alone(self):
        end = end_after(opening(queues=3), weight(1, 64), weight(2, 5), weight(2, 6))
        self.assertEqual([queue.weight for queue in end.queues], [1, 64, 6])

    def test_refused_it_changes_nothing(self):
        calls = [opening(queues=2), weight(0, 3), weight(0, 0), weight(0, 65), weight(-1, 9), weight(2, 9)]
        self.assertEqual([queue.weight for queue in end_after(*calls).queues], [3, 1])


class Times(unittest.TestCase):
    def test_bounds_of_each_time(self):
        out = [opening(now=10), put(10), handing(10)]
        for before, call in [(out[:1], handing), (out, went), (out[:1], put), (out, waits), (out[:2], due)]:
            for now in (10, 11, LAST_TIME):
                self.assertNotEqual(last(*before, call(now)), WRONG, (call, now))
            for now in (0, 9, LAST_TIME + 1, 2**64 - 1):
                self.assertEqual(last(*before, call(now)), WRONG, (call, now))

    def test_the_same_time_again_and_none_before(self):
        got = ask(opening(), put(5), handing(5), went(5, 0), handing(4), put(4), handing(7), went(6), went(7))
        self.assertEqual([answer[0] for answer in got], [0, 1, 1, 0, -1, -1, 1, -1, 0])

    def test_a_time_refused_has_not_passed(self):
        got = ask(opening(now=3), handing(2**63), handing(2), handing(3), put(LAST_TIME), handing(LAST_TIME))
        self.assertEqual([answer[0] for answer in got], [0, -1, -1, 0, 1, 1])
