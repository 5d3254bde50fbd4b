import unittest

from bitdevice.carrying import carry_out
from bitdevice.device import Device
from bitdevice.framings import answer_rtu
from tests.helper import (
    KEPT, answered, begin, counts_after, get, last, line, pdu, put, refused, request, rtu, rtu_frame, run, two,
)

KNOWN = (1, 2, 3, 4, 5, 6, 7, 8, 11, 15, 16, 22, 23)
BUSY = [
    pdu([99]), pdu([98]), pdu([97]), pdu([7]),
    rtu([]), rtu([1]),
    rtu(rtu_frame(0, [7])), rtu(rtu_frame(17, [7])), rtu(rtu_frame(17, [7])), rtu(rtu_frame(18, [7])),
    rtu(rtu_frame(18, [7])), rtu(rtu_frame(17, [7])), rtu(rtu_frame(17, [7])),
]
BUSY_COUNTS = [7, 2, 3, 5, 1, 5]


class OtherFunctions(unittest.TestCase):
    def test_each_is_refused_for_reason_1(self):
        for function in range(256):
            if function not in KNOWN:
                for row in ([function], [function, 0], request(function, 0, 1), [function] * 253):
                    self.assertEqual(last(begin(), pdu(row)), [2, (function + 128) % 256, 1])

    def test_a_function_past_127(self):
        self.assertEqual(last(begin(), pdu([0x83, 0, 0, 0, 1])), [2, 3, 1])
        self.assertEqual(last(begin(), pdu([255])), [2, 127, 1])
        self.assertEqual(last(begin(), pdu([128])), [2, 0, 1])

    def test_known_functions_are_not_refused_for_reason_1(self):
        for function in KNOWN:
            self.assertNotEqual(last(begin(), pdu([function])), refused(function, 1))


class Echo(unittest.TestCase):
    def test_answered_as_it_is(self):
        for number in (0, 1, 0x1234, 65535):
            row = request(8, 0, number)
            self.assertEqual(last(begin(), pdu(row)), answered(row))

    def test_lengths(self):
        for row in ([8], [8, 0], [8, 0, 0], [8, 0, 0, 1], [8, 0, 0, 1, 2, 3], [8, 0, 0, 1, 2, 3, 4]):
            self.assertEqual(last(begin(), pdu(row)), refused(8, 3))

    def test_it_changes_no_count(self):
        self.assertEqual(counts_after(begin(), *BUSY, pdu(request(8, 0, 7))), BUSY_COUNTS)


class ClearCounts(unittest.TestCase):
    def test_all_counts_are_0(self):
        row = request(8, 10, 0)
        self.assertEqual(last(begin(), *BUSY, pdu(row)), answered(row))
        self.assertEqual(counts_after(begin(), *BUSY, pdu(row)), [0] * 6)

    def test_in_a_frame_its_own_counts_go_too(self):
        row = request(8, 10, 0)
        self.assertEqual(last(begin(), *BUSY, rtu(rtu_frame(17, row))), answered(rtu_frame(17, row)))
        self.assertEqual(counts_after(begin(), *BUSY, rtu(rtu_frame(17, row))), [0] * 6)

    def test_tables_stay(self):
        self.assertEqual(last(begin(kept=2), put(KEPT, 1, 9), pdu(request(8, 10, 0)), get(KEPT, 1)), [9])

    def test_wrong_ones_clear_nothing(self):
        for row in ([8, 0, 10], [8, 0, 10, 0], [8, 0, 10, 0, 1], [8, 0, 10, 1, 0], [8, 0, 10, 255, 0],
                    [8, 0, 10, 0, 0, 0]):
            self.assertEqual(last(begin(), pdu(row)), refused(8, 3))
            self.assertEqual(counts_after(begin(), *BUSY, pdu(row)), [7, 2, 4, 5, 1, 5])


class AskedCounts(unittest.TestCase):
    def test_the_first_to_the_fifth(self):
        for which in range(11, 16):
            self.assertEqual(last(begin(), *BUSY, pdu(request(8, which, 0))),
                             answered(request(8, which, BUSY_COUNTS[which - 11])))

    def test_the_sixth(self):
        self.assertEqual(last(begin(), *BUSY, pdu([11])), [5, 11, 0, 0, 0, 5])

    def test_wrong_ones(self):
        for which in range(11, 16):
            for behind in ([], [0], [0, 1], [1, 0], [0, 0, 0], [0, 0, 0, 0]):
                self.assertEqual(last(begin(), pdu([8, 0, which] + behind)), refused(8, 3))
        for row in ([11, 0], [11, 0, 0], [11, 0, 0, 0, 0]):
            self.assertEqual(last(begin(), pdu(row)), refused(11, 3))

    def test_other_numbers(self):
        for which in (1, 2, 3, 4, 5, 9, 16, 17, 18, 20, 255, 256, 266, 267, 65535):
            for behind in ([], [0], [0, 0], [0, 1], [1, 0], [0] * 250):
                self.assertEqual(last(begin(), pdu([8] + two(which) + behind)), refused(8, 1))

    def test_without_the_whole_number(self):
        for row in ([8], [8, 0], [8, 1], [8, 255]):
            self.assertEqual(last(begin(), pdu(row)), refused(8, 3))

    def test_a_frame_is_counted_ahead_of_its_request(self):
        for which, expected in ((11, 8), (12, 2), (13, 3), (14, 6), (15, 1)):
            self.assertEqual(last(begin(), *BUSY, rtu(rtu_frame(17, request(8, which, 0)))),
                             answered(rtu_frame(17, request(8, which, expected))))
        self.assertEqual(last(begin(), *BUSY, rtu(rtu_frame(17, [11]))),
                         answered(rtu_frame(17, request(11, 0, 5))))


class WhatCounts(unittest.TestCase):
    def test_each_function_that_goes_well(self):
        rows = (
            request(1, 0, 1), request(2, 0, 1), request(3, 0, 1), request(4, 0, 1), request(5, 0, 0), request(6, 0, 0),
            [7], request(15, 0, 1) + [1, 0], request(16, 0, 1) + [2, 0, 0], request(22, 0, 0, 0),
            request(23, 0, 1, 0, 1) + [2, 0, 0],
        )
        for row in rows:
            self.assertEqual(counts_after(begin(17, 1, 1, 1, 1), pdu(row)), [0, 0, 0, 0, 0, 1])

    def test_8_and_11_do_not(self):
        for row in (request(8, 0, 5), request(8, 11, 0), request(8, 15, 0), [11]):
            self.assertEqual(counts_after(begin(), *BUSY, pdu(row)), BUSY_COUNTS)

    def test_each_function_that_is_refused(self):
        for function in KNOWN:
            if function not in (7, 11):
                self.assertEqual(counts_after(begin(), pdu([function])), [0, 0, 1, 0, 0, 0])
            self.assertEqual(counts_after(begin(), pdu([function, 0])), [0, 0, 1, 0, 0, 0])
        for function in (1, 2, 3, 4):
            self.assertEqual(counts_after(begin(), pdu(request(function, 0, 1))), [0, 0, 1, 0, 0, 0])
        for row in ([99], [8, 0, 1], [0], [255]):
            self.assertEqual(counts_after(begin(), pdu(row)), [0, 0, 1, 0, 0, 0])

    def test_set_and_get_do_not(self):
        self.assertEqual(counts_after(begin(kept=1), put(KEPT, 0, 1), get(KEPT, 0), get(KEPT, 1), put(9, 9, 9)),
                         [0] * 6)


class CountsPast65535(unittest.TestCase):
    """Longer than a list of calls may be, so the device is asked without the desk."""

    def setUp(self):
        self.device = Device()
        self.device.begin(17, [0, 0, 0, 0])

    def count(self, which):
        return carry_out(self.device, request(8, which, 0) if which < 16 else [11])[-2:]

    def check(self, step, places):
        for _ in range(65535):
            step()
        for which in range(11, 17):
            self.assertEqual(self.count(which), [255, 255] if which in places else [0, 0])
        step()
        for which in range(11, 17):
            self.assertEqual(self.count(which), [0, 0])
        step()
        for which in range(11, 17):
            self.assertEqual(self.count(which), [0, 1] if which in places else [0, 0])

    def test_frames_to_another(self):
        frame = rtu_frame(18, [7])
        self.check(lambda: answer_rtu(self.device, frame), (11,))

    def test_wrong_frames(self):
        self.check(lambda: answer_rtu(self.device, []), (12,))

    def test_refusals(self):
        self.check(lambda: carry_out(self.device, [99]), (13,))

    def test_frames_for_all(self):
        frame = rtu_frame(0, [7])
        self.check(lambda: answer_rtu(self.device, frame), (11, 14, 15))

    def test_requests_that_went_well(self):
        self.check(lambda: carry_out(self.device, [7]), (16,))


class CountsOfTwoBytes(unittest.TestCase):
    def test_the_higher_byte_comes_first(self):
        self.assertEqual(last(begin(), *[pdu([7])] * 300, pdu([11])), [5, 11, 0, 0, 1, 44])
        self.assertEqual(last(begin(), *[line("")] * 300, pdu(request(8, 12, 0))), [5, 8, 0, 12, 1, 44])


class NothingElseIsAnswered(unittest.TestCase):
    def test_a_refusal_has_two_bytes(self):
        self.assertEqual(run(begin(), pdu([99, 1, 2, 3]), pdu([3]), pdu(request(3, 0, 1)))[1:],
                         [[2, 227, 1], [2, 131, 3], [2, 131, 2]])


if __name__ == "__main__":
    unittest.main()
