"""The call counts, over pdu and all three framings."""

import unittest

from bitdevice.desk import call_counts, call_pdu, call_rtu, call_tcp
from bitdevice.device import Device
from tests.helper import (
    KEPT, answered, ascii_text, ask, begin, counts, counts_after, crc, get, last, line, lrc, pdu, put, read, request,
    rtu, rtu_frame, run, tcp, tcp_frame,
)

START = begin(17, 0, 0, 2, 0)
# Right 8, wrong 4, refused 4, for it 6, for all 2, went well 5.
BUSY = [
    pdu([7]), pdu([99]), pdu(request(8, 0, 0)), pdu([11]),
    rtu([]), rtu([1, 2, 3, 4]), rtu(rtu_frame(0, request(6, 0, 1))), rtu(rtu_frame(17, [7])),
    rtu(rtu_frame(18, [7])),
    line("0"), line(ascii_text(0, request(6, 2, 1))), line(ascii_text(17, [3])),
    tcp([]), tcp(tcp_frame(0, request(6, 0, 1))), tcp(tcp_frame(255, [99])), tcp(tcp_frame(18, [7])),
    pdu([7]),
]
BUSY_COUNTS = [8, 4, 4, 6, 2, 5]


class Counts(unittest.TestCase):
    def test_new_ones(self):
        self.assertEqual(last(begin(), counts()), [0] * 7)

    def test_what_all_have_counted_together(self):
        self.assertEqual(last(START, *BUSY, counts()), [0] + BUSY_COUNTS)
        self.assertEqual(last(START, *BUSY, *BUSY, counts()), [0] + [2 * count for count in BUSY_COUNTS])

    def test_what_requests_answer_is_the_same(self):
        self.assertEqual(counts_after(START, *BUSY), BUSY_COUNTS)

    def test_each_of_them(self):
        for call, expected in (
            (rtu(rtu_frame(18, [7])), [1, 0, 0, 0, 0, 0]), (line(ascii_text(18, [7])), [1, 0, 0, 0, 0, 0]),
            (tcp(tcp_frame(18, [7])), [1, 0, 0, 0, 0, 0]),
            (rtu([]), [0, 1, 0, 0, 0, 0]), (line(""), [0, 1, 0, 0, 0, 0]), (tcp([]), [0, 1, 0, 0, 0, 0]),
            (pdu([99]), [0, 0, 1, 0, 0, 0]),
            (rtu(rtu_frame(17, [11])), [1, 0, 0, 1, 0, 0]), (line(ascii_text(17, [11])), [1, 0, 0, 1, 0, 0]),
            (tcp(tcp_frame(17, [11])), [1, 0, 0, 1, 0, 0]),
            (rtu(rtu_frame(0, [7])), [1, 0, 0, 1, 1, 0]), (line(ascii_text(0, [7])), [1, 0, 0, 1, 1, 0]),
            (tcp(tcp_frame(0, [7])), [1, 0, 0, 1, 0, 1]),
            (pdu([7]), [0, 0, 0, 0, 0, 1]), (pdu(request(8, 0, 1)), [0] * 6), (pdu([11]), [0] * 6),
        ):
            self.assertEqual(last(START, call, counts()), [0] + expected, call)

    def test_they_are_only_looked_at(self):
        self.assertEqual(run(START, *BUSY, counts(), counts(), counts())[-3:], [[0] + BUSY_COUNTS] * 3)

    def test_8_with_10_sets_all_six_back(self):
        row = request(8, 10, 0)
        for call, answer in (
            (pdu(row), row), (rtu(rtu_frame(17, row)), rtu_frame(17, row)),
            (line(ascii_text(17, row)), [ord(sign) for sign in ascii_text(17, row)]),
            (tcp(tcp_frame(17, row)), tcp_frame(17, row)),
        ):
            self.assertEqual(run(START, *BUSY, call, counts())[-2:], [answered(answer), [0] * 7])
            self.assertEqual(last(START, *BUSY, call, *BUSY, counts()), [0] + BUSY_COUNTS)

    def test_8_with_10_that_is_refused_sets_none_back(self):
        expected = [0, 8, 4, 5, 6, 2, 5]
        for row in ([8, 0, 10], [8, 0, 10, 0, 1], [8, 0, 10, 0, 0, 0]):
            self.assertEqual(last(START, *BUSY, pdu(row), counts()), expected)

    def test_begin_sets_them_back(self):
        self.assertEqual(last(START, *BUSY, START, counts()), [0] * 7)

    def test_a_refused_begin_leaves_them(self):
        for wrong in (begin(0), begin(248), begin(17, -1), begin(17, 0, 65537), begin(17, 0, 0, -1),
                      begin(17, 0, 0, 0, 65537)):
            self.assertEqual(run(START, *BUSY, wrong, counts())[-2:], [[-2], [0] + BUSY_COUNTS])

    def test_other_calls_leave_them(self):
        others = [
            put(KEPT, 0, 1), put(KEPT, 2, 1), get(KEPT, 0), get(9, 0), crc([1]), lrc([1]), crc([]), lrc([]),
            ask(3, 0, 1), ask(3, 0, 0), ask(6, 0, 1, [1]), read([7], [7]), read([3], [131, 2]), read([], []),
            read(request(3, 0, 1), [3, 2, 0, 1]), read([6], [6]), counts(),
        ]
        self.assertEqual(last(START, *BUSY, *others, counts()), [0] + BUSY_COUNTS)

    def test_calls_refused_for_their_length_leave_them(self):
        others = [pdu([]), pdu([7] * 254), rtu([7] * 257), line(":" * 514), tcp([7] * 261)]
        self.assertEqual(last(START, *BUSY, *others, counts()), [0] + BUSY_COUNTS)


class CountsPast65535(unittest.TestCase):
    """Longer than a list of calls may be, so the desk's own calls are asked."""

    def check(self, step, counting):
        device = Device()
        device.begin(17, [0, 0, 0, 0])
        for count, more in ((65535, 65535), (0, 1), (1, 1)):
            for _ in range(more):
                step(device)
            self.assertEqual(call_counts(device, [], []), [0] + [count if which else 0 for which in counting])

    def test_right_ones_for_it_that_went_well(self):
        frame = tcp_frame(17, [7])
        self.check(lambda device: call_tcp(device, [], [frame]), [1, 0, 0, 1, 0, 1])

    def test_wrong_ones(self):
        self.check(lambda device: call_tcp(device, [], [[]]), [0, 1, 0, 0, 0, 0])

    def test_refusals(self):
        self.check(lambda device: call_pdu(device, [], [[99]]), [0, 0, 1, 0, 0, 0])

    def test_those_for_all(self):
        frame = rtu_frame(0, [7])
        self.check(lambda device: call_rtu(device, [], [frame]), [1, 0, 0, 1, 1, 0])


if __name__ == "__main__":
    unittest.main()
