"""Words: the bytes of a frame and its CRC-32C."""

import unittest

from framelink.frames import bytes_of, crc32c, is_frame, number_of
from tests.helper import EVERYBODY, LAST_TIME, ME, YOU, crc, frame, handing, last, opening, put, some_bytes


class Crc(unittest.TestCase):
    def test_known_sums(self):
        self.assertEqual(crc32c(list(b"123456789")), 0xE3069283)
        self.assertEqual(crc32c([0] * 32), 0x8A9136AA)
        self.assertEqual(crc32c([255] * 32), 0x62A8AB43)
        self.assertEqual(crc32c(list(range(32))), 0x46DD794E)
        self.assertEqual(crc32c([]), 0)

    def test_is_the_sum_that_a_table_gives(self):
        for length in (1, 15, 100, 1514):
            self.assertEqual(crc32c(some_bytes(length)), crc(some_bytes(length)))


class Numbers(unittest.TestCase):
    def test_highest_byte_first(self):
        self.assertEqual(bytes_of(0x01020304, 4), [1, 2, 3, 4])
        self.assertEqual(bytes_of(65535, 2), [255, 255])
        self.assertEqual(bytes_of(1, 2), [0, 1])
        self.assertEqual(number_of([1, 2, 3, 4]), 0x01020304)
        self.assertEqual(number_of([255, 0]), 65280)


class Form(unittest.TestCase):
    def test_a_frame_written_out(self):
        checked = [9, 8, 7, 6, 5, 4] + ME + [0x12, 0x34] + [65, 66, 67]
        whole = checked + list(crc(checked).to_bytes(4, "big"))
        got = last(opening(), put(0, 0, 0x1234, [9, 8, 7, 6, 5, 4], [65, 66, 67]), handing(0))
        self.assertEqual(got, [1] + whole)

    def test_a_frame_with_its_sum_as_numbers(self):
        got = last(opening(me=[0] * 6), put(0, 0, 0, [0] * 6, [0]), handing(0))
        self.assertEqual(got, [1] + [0] * 15 + list(crc([0] * 15).to_bytes(4, "big")))

    def test_shortest_and_longest(self):
        for length in (1, 2, 1499, 1500):
            body = some_bytes(length)
            got = last(opening(), put(0, 0, 65535, EVERYBODY, body), handing(LAST_TIME))
            self.assertEqual(got, [1] + frame(65535, EVERYBODY, ME, body))
            self.assertEqual(len(got), 1 + 18 + length)

    def test_bytes_that_are_a_frame(self):
        self.assertTrue(is_frame(frame(body=[5])))
        self.assertTrue(is_frame(frame(body=[5] * 1500)))
        self.assertFalse(is_frame(frame(body=[])))
        self.assertFalse(is_frame(frame(body=[5] * 1501)))
        self.assertFalse(is_frame([]))
        self.assertFalse(is_frame(list(crc([]).to_bytes(4, "big"))))

    def test_each_damaged_byte_is_seen(self):
        whole = frame(0x0102, YOU, ME, [1, 2, 3])
        for place in range(len(whole)):
            damaged = list(whole)
            damaged[place] ^= 0x40
            self.assertFalse(is_frame(damaged), place)
