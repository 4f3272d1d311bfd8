"""The interface: the list of calls and the list of answers."""

import unittest

from framelink.desk import answers
from tests.helper import (
    EVERYBODY,
    LAST_TIME,
    ME,
    YOU,
    ask,
    came,
    counts,
    drop,
    due,
    flat,
    frame,
    group,
    handing,
    hear,
    join,
    leave,
    make,
    opening,
    put,
    put_long,
    read,
    waits,
    weight,
    went,
)

ALL = [
    opening(0, 2, 2, 0, 1000, 1518),
    weight(1, 2),
    put(0, 1, 5, EVERYBODY, [1, 2]),
    put_long(1518, 6),
    handing(0),
    went(0, 1),
    handing(0),
    came(frame(8, ME, YOU, [4])),
    came(frame(8, YOU, ME, [4])),
    came([1, 2, 3]),
    join(group(1)),
    leave(group(1)),
    leave(group(1)),
    hear(1),
    came(frame(8, YOU, [9] * 6, [4])),
    waits(3, 0),
    due(3),
    drop(0),
    make(300, YOU, ME, [6, 7]),
    read(frame(300, YOU, ME, [6, 7])),
    counts(),
    due(4),
]


class Lists(unittest.TestCase):
    def test_written_out(self):
        calls = [1, 7, 1, 1, 0, 0, 1518, 6, 2, 0, 0, 0, 0, 1]
        calls += [2, 0, 64]
        calls += [3, 7, 0, 258, 6, 1, 2, 3, 4, 5, 6, 2, 10, 11]
        calls += [4, 7]
        calls += [5, 7, 1]
        calls += [4, 7]
        calls += [6, 0]
        calls += [7, 6, 1, 2, 3, 4, 5, 6]
        calls += [8, 6, 1, 2, 3, 4, 5, 6]
        calls += [8, 1, 1]
        calls += [9, 1]
        calls += [10, 8, 0]
        calls += [11, 0]
        calls += [12]
        calls += [13, 258, 6, 1, 2, 3, 4, 5, 6, 6, 2, 0, 0, 0, 0, 1, 2, 10, 11]
        whole = frame(258, [1, 2, 3, 4, 5, 6], ME, [10, 11])
        calls += [14, 20] + whole
        calls += [15, 9]
        expected = [1, 0] + [1, 0] + [1, 1] + [21, 1] + whole + [1, 0] + [1, 0] + [1, -3] + [1, 0] + [1, 0] + [1, -1]
        expected += [1, 0] + [4, 0, 0, 0, 0] + [1, 0] + [11, 0, 1, 20, 0, 0, 1, 0, 0, 0, 0, 0] + [21, 20] + whole
        expected += [15, 258, 1, 2, 3, 4, 5, 6, 2, 0, 0, 0, 0, 1, 10, 11] + [1, -2]
        self.assertEqual(answers(calls), expected)

    def test_all_calls_with_their_answers_in_order(self):
        got = ask(*ALL)
        expected = [[0], [0], [1], [1], [1] + frame(5, EVERYBODY, ME, [1, 2]), [0], [2, 20]]
        expected += [[1, 8] + YOU + ME + [4], [0], [-3], [0], [0], [-2]]
        expected += [[0], [1, 8] + [9] * 6 + YOU + [4], [0, 1, 1518, 3], [0, 20], [1]]
        expected += [[20] + frame(300, YOU, ME, [6, 7]), [300] + YOU + ME + [6, 7]]
        expected += [[0, 1, 20, 2, 38, 1, 1, 1, 0, 0, 0], [-2]]
        self.assertEqual(got, expected)
        self.assertEqual({call[0] for call in ALL}, set(range(1, 16)))

    def test_one_call(self):
        self.assertEqual(answers(opening()), [1, 0])
        self.assertEqual(answers([4, 0]), [1, -1])
        self.assertEqual(answers([12]), [11] + [0] * 11)
        self.assertEqual(answers(make()), [20, 19] + frame(1, YOU, ME))
        self.assertEqual(answers(read([])), [1, -3])

    def test_empty_rows(self):
        got = ask(opening(me=[]), opening(), put(to=[], body=[]), came([]), join([]), leave([]), handing())
        self.assertEqual(got, [[-1], [0], [-1], [-3], [-1], [-1], [0]])
        self.assertEqual(ask(make(1, [], [], []), read([]), make(1, YOU, [], [1])), [[-1], [-3], [-1]])

    def test_what_is_handed_in_is_as_it_was(self):
        calls = flat(ALL)
        copy = list(calls)
        answers(calls)
        self.assertEqual(calls, copy)
        self.assertIs(type(calls), list)

    def test_what_is_handed_in_is_only_read(self):
        class Watched(list):
            def refuse(self, *given):
                raise AssertionError("what is handed in was changed")

            __setitem__ = __delitem__ = __iadd__ = __imul__ = refuse
            append = clear = extend = insert = pop = remove = reverse = sort = refuse

        self.assertEqual(answers(Watched(flat(ALL))), answers(flat(ALL)))

    def test_nothing_is_kept_from_one_time_to_the_next(self):
        once = answers(flat(ALL))
        self.assertEqual(answers(handing(0)), [1, -1])
        self.assertEqual(answers(flat(ALL)), once)

    def test_what_is_given_back_is_new_each_time(self):
        once = answers(flat(ALL))
        copy = list(once)
        once.clear()
        self.assertEqual(answers(flat(ALL)), copy)

    def test_a_thousand_calls(self):
        calls = [opening(each=64)] + [call for k in range(333) for call in (put(k), handing(k), went(k))]
        self.assertEqual(len(calls), 1000)
        self.assertEqual(ask(*calls)[-2:], [[1] + frame(1, YOU, ME), [0]])
        self.assertEqual(ask(*[counts()] * 1000), [[0] * 11] * 1000)
        self.assertEqual(ask(opening(), *[due()] * 999)[1:], [[-2]] * 999)

    def test_many_long_answers(self):
        calls = [opening(), put_long(1518, 1)] + [handing(), went(0, 0)] * 499
        got = ask(*calls)
        self.assertEqual(got[-2], got[2])
        self.assertEqual(len(got[-2]), 1519)

    def test_as_many_numbers_as_may_be(self):
        calls = [opening(), came([0] * 15900), put(LAST_TIME)]
        self.assertLessEqual(len(flat(calls)), 16000)
        self.assertEqual(ask(*calls), [[0], [-3], [1]])
        self.assertEqual(ask(read([0] * 15900), make(body=[0] * 15)), [[-3], [33] + frame(1, YOU, ME, [0] * 15)])
