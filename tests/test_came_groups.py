"""Points 6 to 8: came, join and leave."""

import unittest

from tests.helper import (
    EVERYBODY,
    FULL,
    ME,
    NO_FRAME,
    NOT_THERE,
    OTHER,
    WRONG,
    YOU,
    ask,
    came,
    counted,
    frame,
    group,
    join,
    last,
    leave,
    opening,
    put,
    handing,
    some_bytes,
)

SIXTEEN = [join(group(k)) for k in range(16)]


class Came(unittest.TestCase):
    def test_to_me(self):
        got = last(opening(), came(frame(0x0203, ME, YOU, [9, 8, 7])))
        self.assertEqual(got, [1, 0x0203] + YOU + ME + [9, 8, 7])

    def test_to_everybody(self):
        self.assertEqual(last(opening(), came(frame(7, EVERYBODY, YOU, [1]))), [1, 7] + YOU + EVERYBODY + [1])

    def test_to_a_group(self):
        call = came(frame(7, group(1), YOU, [1]))
        got = ask(opening(), call, join(group(2)), call, join(group(1)), call, leave(group(1)), call)
        heard = [1, 7] + YOU + group(1) + [1]
        self.assertEqual(got[1::2], [[0], [0], heard, [0]])

    def test_to_others(self):
        near = [[2, 0, 0, 0, 0, 0], [3, 0, 0, 0, 0, 1], [255, 255, 255, 255, 255, 254], [254, 255, 255, 255, 255, 255]]
        for to in [OTHER, YOU, ME[::-1]] + near:
            self.assertEqual(last(opening(), came(frame(to=to))), [0], to)

    def test_from_me(self):
        for to in (ME, EVERYBODY, group(1), OTHER):
            self.assertEqual(last(opening(), join(group(1)), came(frame(to=to, sender=ME))), [0], to)

    def test_from_others_of_any_kind(self):
        for sender in (EVERYBODY, group(1), [0] * 6):
            self.assertEqual(last(opening(), join(group(1)), came(frame(1, ME, sender)))[0], 1, sender)

    def test_kinds(self):
        for kind in (0, 1, 255, 256, 65535):
            self.assertEqual(last(opening(), came(frame(kind)))[:2], [1, kind])

    def test_lengths(self):
        for length in (1, 2, 1499, 1500):
            body = some_bytes(length)
            self.assertEqual(last(opening(), came(frame(1, ME, YOU, body))), [1, 1] + YOU + ME + body)
        for length in (0, 1501, 1600):
            self.assertEqual(last(opening(), came(frame(1, ME, YOU, [5] * length))), NO_FRAME)
        self.assertEqual([len(frame(body=[5] * k)) for k in (0, 1, 1500, 1501)], [18, 19, 1518, 1519])

    def test_no_frames(self):
        whole = frame(body=[1, 2, 3])
        for damaged in [[], [0], [0] * 15900, whole[:-1], whole[1:], whole + [0], whole[:-4] + whole[:-5:-1]]:
            self.assertEqual(last(opening(), came(damaged)), NO_FRAME, damaged[:20])

    def test_a_wrong_sum(self):
        for length in (19, 1518):
            whole = frame(body=[3] * (length - 18))
            for place in (0, 6, 12, 14, length - 5, length - 4, length - 1):
                damaged = list(whole)
                damaged[place] ^= 1
                self.assertEqual(last(opening(), came(damaged)), NO_FRAME, (length, place))

    def test_no_frame_ahead_of_not_for_here(self):
        damaged = frame(to=OTHER, sender=ME)
        damaged[-1] ^= 1
        self.assertEqual(last(opening(), came(damaged)), NO_FRAME)

    def test_what_next_hands_out_is_not_for_its_own_end(self):
        handed = last(opening(), put(to=EVERYBODY), handing())[1:]
        self.assertEqual(last(opening(), came(handed)), [0])
        self.assertEqual(last(opening(me=OTHER), came(handed)), [1, 1] + ME + EVERYBODY + [1])

    def test_what_is_counted(self):
        calls = [opening(), came(frame(body=[1] * 82)), came(frame(to=EVERYBODY))]
        self.assertEqual(counted(*calls), {"heard_frames": 2, "heard_bytes": 119})
        self.assertEqual(counted(opening(), came([]), came([1] * 30), came([2] * 1519)), {"no_frames": 3})
        self.assertEqual(counted(opening(), came(frame(to=OTHER)), came(frame(sender=ME))), {"for_others": 2})

    def test_before_opening_nothing_is_counted(self):
        self.assertEqual(counted(came([]), came(frame()), opening()), {})


class Join(unittest.TestCase):
    def test_twice(self):
        self.assertEqual(ask(opening(), join(group(1)), join(group(1)))[1:], [[0], [0]])
        self.assertEqual(ask(opening(), join(group(1)), join(group(1)), leave(group(1)), leave(group(1)))[3:],
                         [[0], NOT_THERE])

    def test_sixteen_and_no_more(self):
        got = ask(opening(), *SIXTEEN, join(group(16)), join(group(0)), join(group(15)), join(group(17)))
        self.assertEqual(got[1:], [[0]] * 16 + [FULL, [0], [0], FULL])

    def test_one_refused_is_not_heard(self):
        calls = [opening(), *SIXTEEN, join(group(16))]
        self.assertEqual(last(*calls, came(frame(to=group(16)))), [0])
        self.assertEqual(last(*calls, leave(group(16))), NOT_THERE)
        for k in range(16):
            self.assertEqual(last(*calls, came(frame(to=group(k))))[0], 1, k)

    def test_twice_takes_one_place(self):
        self.assertEqual(last(opening(), *SIXTEEN[:15], *SIXTEEN[:15], join(group(15))), [0])

    def test_a_place_left_is_free(self):
        got = ask(opening(), *SIXTEEN, leave(group(3)), join(group(16)), join(group(3)), came(frame(to=group(3))))
        self.assertEqual(got[17:], [[0], [0], FULL, [0]])

    def test_any_address(self):
        for address in (EVERYBODY, ME, [0] * 6, OTHER):
            self.assertEqual(ask(opening(), join(address), leave(address), leave(address))[1:], [[0], [0], NOT_THERE])

    def test_everybody_and_me_are_heard_all_the_same(self):
        for address in (EVERYBODY, ME):
            self.assertEqual(last(opening(), join(address), leave(address), came(frame(to=address)))[0], 1)

    def test_no_address(self):
        for numbers in ([], [1] * 5, [1] * 7, [1] * 12):
            self.assertEqual(last(opening(), join(numbers)), WRONG)
            self.assertEqual(last(opening(), *SIXTEEN, join(numbers)), WRONG)

    def test_nothing_is_counted(self):
        self.assertEqual(counted(opening(), *SIXTEEN, join(group(16)), leave(group(16)), join([])), {})


class Leave(unittest.TestCase):
    def test_left_and_left_again(self):
        got = ask(opening(), leave(group(1)), join(group(1)), leave(group(1)), leave(group(1)), join(group(1)))
        self.assertEqual(got[1:], [NOT_THERE, [0], [0], NOT_THERE, [0]])

    def test_the_others_stay(self):
        got = ask(opening(), join(group(1)), join(group(2)), leave(group(1)), came(frame(to=group(2))))
        self.assertEqual(got[4][0], 1)
        self.assertEqual(last(opening(), join(group(2)), leave(group(1)), came(frame(to=group(2))))[0], 1)

    def test_no_address(self):
        for numbers in ([], [3, 0, 0, 0, 0], [3, 0, 0, 0, 0, 1, 0]):
            self.assertEqual(last(opening(), join(group(1)), leave(numbers)), WRONG)
