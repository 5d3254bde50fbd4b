import unittest

from tests.helper import (
    COILS, KEPT, answered, ask, begin, counts, get, last, pdu, put, request, run, two,
)

LEAST = -2147483648
GREATEST = 2147483647
ASKED = (1, 2, 3, 4, 5, 6, 15, 16, 22)
WITH_VALUES = (5, 6, 15, 16, 22)
# For each function the least and the greatest count.
BOUNDS = {1: (1, 2000), 2: (1, 2000), 3: (1, 125), 4: (1, 125), 5: (1, 1), 6: (1, 1), 15: (1, 1968), 16: (1, 123),
          22: (2, 2)}


def asked(function, at, count, values=None):
    """The answer; where none are given, values as many as are to be handed in."""
    if values is None:
        with_values = function in WITH_VALUES and 0 <= at <= 65535 and 1 <= count <= 2000
        values = [1] * count if with_values else []
    return last(begin(), ask(function, at, count, values))


class Requests(unittest.TestCase):
    def test_reads(self):
        for function in (1, 2, 3, 4):
            self.assertEqual(asked(function, 0x6B, 3), [5, function, 0, 0x6B, 0, 3])
            self.assertEqual(asked(function, 0x1234, 0x7D), [5, function, 0x12, 0x34, 0, 0x7D])
        for function in (1, 2):
            self.assertEqual(asked(function, 0, 2000), [5, function, 0, 0, 7, 208])

    def test_one_coil(self):
        self.assertEqual(asked(5, 0xAC, 1, [0]), [5, 5, 0, 0xAC, 0, 0])
        for value in (1, 2, 255, 256, 0xFF00, 65535):
            self.assertEqual(asked(5, 0xAC, 1, [value]), [5, 5, 0, 0xAC, 255, 0])

    def test_one_kept_register(self):
        for value in (0, 1, 255, 256, 0x1234, 65535):
            self.assertEqual(asked(6, 258, 1, [value]), [5, 6, 1, 2] + two(value))

    def test_mask(self):
        self.assertEqual(asked(22, 4, 2, [0xF2, 0x25]), [7, 22, 0, 4, 0, 0xF2, 0, 0x25])
        self.assertEqual(asked(22, 0x1234, 2, [0, 65535]), [7, 22, 0x12, 0x34, 0, 0, 255, 255])

    def test_many_coils(self):
        self.assertEqual(asked(15, 19, 10, [1, 0, 1, 1, 0, 0, 1, 1, 1, 0]), [8, 15, 0, 19, 0, 10, 2, 0xCD, 1])
        self.assertEqual(asked(15, 0, 1, [0]), [7, 15, 0, 0, 0, 1, 1, 0])
        self.assertEqual(asked(15, 0, 8, [0] * 7 + [1]), [7, 15, 0, 0, 0, 8, 1, 128])
        self.assertEqual(asked(15, 0, 9, [0] * 8 + [1]), [8, 15, 0, 0, 0, 9, 2, 0, 1])

    def test_values_of_coils_that_are_not_0(self):
        self.assertEqual(asked(15, 0, 9, [2, 0, 65535, 0, 256, 255, 0, 7, 2]),
                         [8, 15, 0, 0, 0, 9, 2, 0b10110101, 1])

    def test_many_kept_registers(self):
        self.assertEqual(asked(16, 1, 2, [10, 0x102]), [10, 16, 0, 1, 0, 2, 4, 0, 10, 1, 2])
        self.assertEqual(asked(16, 1, 1, [65535]), [8, 16, 0, 1, 0, 1, 2, 255, 255])

    def test_the_greatest_of_many(self):
        self.assertEqual(asked(15, 0, 1968, [0] * 1967 + [9]),
                         answered([15, 0, 0, 7, 176, 246] + [0] * 245 + [128]))
        values = [k * 300 for k in range(123)]
        self.assertEqual(asked(16, 0, 123, values), answered([16, 0, 0, 0, 123, 246] + request(0, *values)[1:]))

    def test_the_least_of_values_with_a_0(self):
        for function, row in ((5, request(5, 7, 0)), (6, request(6, 7, 0)), (15, request(15, 7, 1) + [1, 0]),
                              (16, request(16, 7, 1) + [2, 0, 0])):
            self.assertEqual(asked(function, 7, 1, [0]), answered(row))


class OutOfRange(unittest.TestCase):
    def test_other_functions(self):
        for function in list(range(-2, 300)) + [LEAST, GREATEST, 65536 + 3, 256 + 3, -253]:
            if function not in ASKED:
                for count in (1, 2):
                    self.assertEqual(asked(function, 0, count), [-2], function)

    def test_counts(self):
        for function, (least, greatest) in BOUNDS.items():
            for count in (least, greatest):
                self.assertEqual(asked(function, 0, count)[1], function)
            for count in (least - 1, greatest + 1, 0, -1, 2001, 65537, LEAST, GREATEST):
                self.assertEqual(asked(function, 0, count), [-2], (function, count))

    def test_counts_within_2000_of_functions_that_have_fewer(self):
        for function, (least, greatest) in BOUNDS.items():
            if greatest < 2000:
                self.assertEqual(asked(function, 0, 2000), [-2])
        for function in (5, 6):
            self.assertEqual(asked(function, 0, 2, [0, 1]), [-2])
        for count in (1, 3):
            self.assertEqual(asked(22, 0, count), [-2])

    def test_places(self):
        for function, (least, greatest) in BOUNDS.items():
            for at in (0, 1, 63000):
                self.assertEqual(asked(function, at, least)[:4], [asked(function, 0, least)[0], function] + two(at))
            for at in (-1, 65536, 65537, LEAST, GREATEST):
                self.assertEqual(asked(function, at, least), [-2], (function, at))

    def test_the_last_place(self):
        for function in ASKED:
            least = BOUNDS[function][0]
            self.assertEqual(asked(function, 65535, least)[:4], [asked(function, 0, least)[0], function, 255, 255])

    def test_just_at_the_last_place_and_one_past_it(self):
        for function in (1, 2, 3, 4, 15, 16):
            for count in (2, BOUNDS[function][1]):
                at = 65536 - count
                self.assertEqual(asked(function, at, count)[1:6], [function] + two(at) + two(count))
                self.assertEqual(asked(function, at + 1, count), [-2])
                self.assertEqual(asked(function, 65535, count), [-2])

    def test_two_values_of_one_place(self):
        self.assertEqual(asked(22, 65535, 2, [1, 2]), [7, 22, 255, 255, 0, 1, 0, 2])
        self.assertEqual(asked(22, 65534, 2, [1, 2]), [7, 22, 255, 254, 0, 1, 0, 2])
        self.assertEqual(asked(22, 65536, 2), [-2])

    def test_a_call_behind_it_is_found(self):
        for call in (ask(5, 0, 3, [1, 2, 7]), ask(99, 0, 5), ask(16, 0, 2000, [7] * 2000), ask(6, -1, 1),
                     ask(6, 0, -4)):
            self.assertEqual(run(begin(kept=1), put(KEPT, 0, 4), call, get(KEPT, 0))[2:], [[-2], [4]])


class WithTheDevice(unittest.TestCase):
    def test_what_is_asked_is_not_carried_out(self):
        start = begin(17, 2, 2, 2, 2)
        parts = run(start, ask(5, 0, 1, [1]), ask(6, 0, 1, [1]), ask(15, 0, 2, [1, 1]), ask(16, 0, 2, [1, 1]),
                    ask(22, 0, 2, [0, 1]), get(COILS, 0), get(COILS, 1), get(KEPT, 0), get(KEPT, 1), counts())
        self.assertEqual(parts[6:], [[0], [0], [0], [0], [0] * 7])

    def test_it_is_asked_whether_the_device_has_the_place_or_not(self):
        self.assertEqual(last(begin(), ask(3, 500, 2)), [5, 3, 1, 244, 0, 2])

    def test_what_is_asked_is_carried_out_by_pdu(self):
        start = begin(17, 2000, 2000, 200, 200)
        for function, (least, greatest) in BOUNDS.items():
            for count in (least, greatest):
                row = asked(function, 0, count)[1:]
                self.assertEqual(last(start, pdu(row))[1], function)


if __name__ == "__main__":
    unittest.main()
