"""Point 9: hear; and point 6 once more, with all heard."""

import unittest

from tests.helper import (
    EVERYBODY,
    INT_MAX,
    INT_MIN,
    ME,
    NO_FRAME,
    OTHER,
    WRONG,
    YOU,
    ask,
    came,
    counted,
    frame,
    group,
    hear,
    join,
    last,
    leave,
    opening,
)

TO_OTHERS = came(frame(7, OTHER, YOU, [5, 6]))
HEARD = [1, 7] + YOU + OTHER + [5, 6]


class Hear(unittest.TestCase):
    def test_bounds(self):
        for choice in (0, 1):
            self.assertEqual(last(opening(), hear(choice)), [0])
        for choice in (-1, 2, INT_MIN, INT_MAX):
            self.assertEqual(last(opening(), hear(choice)), WRONG, choice)

    def test_not_at_first(self):
        self.assertEqual(last(opening(), TO_OTHERS), [0])

    def test_all(self):
        self.assertEqual(last(opening(), hear(1), TO_OTHERS), HEARD)
        for to in (OTHER, YOU, group(1), [0] * 6, ME, EVERYBODY):
            self.assertEqual(last(opening(), hear(1), came(frame(to=to))), [1, 1] + YOU + to + [1], to)

    def test_not_any_more(self):
        got = ask(opening(), hear(1), TO_OTHERS, hear(0), TO_OTHERS, hear(0), TO_OTHERS, hear(1), hear(1), TO_OTHERS)
        self.assertEqual([got[2], got[4], got[6], got[9]], [HEARD, [0], [0], HEARD])

    def test_one_refused_changes_nothing(self):
        for choice in (-1, 2, INT_MAX):
            self.assertEqual(last(opening(), hear(choice), TO_OTHERS), [0], choice)
            self.assertEqual(last(opening(), hear(1), hear(choice), TO_OTHERS), HEARD, choice)

    def test_opened_anew_not_all_is_heard(self):
        self.assertEqual(last(opening(), hear(1), opening(), TO_OTHERS), [0])
        self.assertEqual(last(opening(), hear(1), opening(queues=0), TO_OTHERS), HEARD)

    def test_before_opening_it_is_refused(self):
        self.assertEqual(ask(hear(1), opening(), TO_OTHERS), [WRONG, [0], [0]])


class AllHeard(unittest.TestCase):
    def test_from_me(self):
        for to in (OTHER, ME, EVERYBODY, group(1)):
            self.assertEqual(last(opening(), hear(1), came(frame(to=to, sender=ME))), [0], to)

    def test_a_wrong_sum(self):
        damaged = frame(to=OTHER)
        damaged[-1] ^= 1
        for no_frame in (damaged, [], [1] * 18, frame(body=[]), frame(body=[1] * 1501)):
            self.assertEqual(last(opening(), hear(1), came(no_frame)), NO_FRAME)

    def test_what_is_counted(self):
        damaged = frame()
        damaged[0] ^= 1
        calls = [opening(), hear(1), TO_OTHERS, came(frame(to=OTHER, sender=ME)), came(damaged)]
        self.assertEqual(counted(*calls), {"heard_frames": 1, "heard_bytes": 20, "for_others": 1, "no_frames": 1})
        self.assertEqual(counted(opening(), hear(1), hear(2), hear(0)), {})

    def test_groups_stay_as_they_were(self):
        to_group = came(frame(to=group(1)))
        got = ask(opening(), join(group(1)), hear(1), leave(group(2)), leave(group(1)), to_group, hear(0), to_group)
        self.assertEqual([answer[0] for answer in got[3:]], [-2, 0, 1, 0, 0])
        self.assertEqual(last(opening(), join(group(1)), hear(1), hear(0), to_group)[0], 1)
