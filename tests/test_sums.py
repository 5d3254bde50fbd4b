"""crc and lrc as calls."""

import unittest

from bitdevice.desk import call_crc, call_lrc
from bitdevice.device import Device
from tests.helper import KEPT, begin, counts, crc, crc_of, get, last, lrc, put, run

MANY = [(k * 7 + k // 256) % 256 for k in range(29000)]


def signs(text):
    return [ord(sign) for sign in text]


class Crc(unittest.TestCase):
    def test_no_bytes(self):
        self.assertEqual(last(begin(), crc([])), [0xFFFF])

    def test_written_out(self):
        self.assertEqual(last(begin(), crc(signs("123456789"))), [0x4B37])
        self.assertEqual(last(begin(), crc([0x11, 3, 0, 0x6B, 0, 3])), [0x8776])
        self.assertEqual(last(begin(), crc([1, 3, 0, 0, 0, 10])), [0xCDC5])

    def test_each_byte(self):
        for part in range(256):
            self.assertEqual(last(begin(), crc([part])), [crc_of([part])])
            self.assertEqual(last(begin(), crc([255, part, 0])), [crc_of([255, part, 0])])

    def test_a_right_frame_has_the_sum_0(self):
        self.assertEqual(last(begin(), crc([1, 3, 0, 0, 0, 10, 0xC5, 0xCD])), [0])

    def test_more_bytes_than_a_frame_has(self):
        for many in (256, 257, 513, 514):
            self.assertEqual(last(begin(), crc(MANY[:many])), [crc_of(MANY[:many])])

    def test_29000_bytes(self):
        self.assertEqual(last(begin(), crc(MANY)), [crc_of(MANY)])


class Lrc(unittest.TestCase):
    def test_no_bytes(self):
        self.assertEqual(last(begin(), lrc([])), [0])

    def test_written_out(self):
        for row, total in (([0], 0), ([1], 255), ([255], 1), ([128, 128], 0), ([0x11, 3, 0, 0x6B, 0, 3], 0x7E)):
            self.assertEqual(last(begin(), lrc(row)), [total])

    def test_each_byte(self):
        for part in range(256):
            total = last(begin(), lrc([part, 100]))[0]
            self.assertEqual((total + part + 100) % 256, 0)
            self.assertIn(total, range(256))

    def test_29000_bytes(self):
        self.assertEqual(last(begin(), lrc(MANY)), [-sum(MANY) % 256])
        self.assertEqual(last(begin(), lrc([255] * 29000)), [29000 % 256])


class Both(unittest.TestCase):
    def test_they_change_nothing(self):
        parts = run(begin(kept=1), put(KEPT, 0, 9), crc([1, 2, 3]), lrc([1, 2, 3]), get(KEPT, 0), counts())
        self.assertEqual(parts[4:], [[9], [0] * 7])

    def test_how_many_bytes(self):
        """More than the interface hands in, so the desk's own calls are asked."""
        self.assertEqual(call_crc(Device(), [], [[0] * 65536]), [crc_of([0] * 65536)])
        self.assertEqual(call_lrc(Device(), [], [[1] * 65536]), [0])
        self.assertEqual(call_crc(Device(), [], [[0] * 65537]), [-2])
        self.assertEqual(call_lrc(Device(), [], [[1] * 65537]), [-2])


if __name__ == "__main__":
    unittest.main()
