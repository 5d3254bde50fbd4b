import unittest

from tests.helper import (
    COILS, KEPT, answered, begin, counts, get, last, pdu, put, request, run, tcp, tcp_frame, two,
)

START = begin(17, 20, 20, 200, 20)
WRITE = request(6, 0, 5)


def counted(*calls):
    """The six counts after calls that are answered before."""
    return last(START, *calls, counts())[1:]


class ForIt(unittest.TestCase):
    def test_frames_written_out(self):
        sets = [put(KEPT, 0x6B, 0xAE41), put(KEPT, 0x6C, 0x5652), put(KEPT, 0x6D, 0x4340)]
        self.assertEqual(
            last(START, *sets, tcp([0xAB, 0xCD, 0, 0, 0, 6, 17, 3, 0, 0x6B, 0, 3])),
            [15, 0xAB, 0xCD, 0, 0, 0, 9, 17, 3, 6, 0xAE, 0x41, 0x56, 0x52, 0x43, 0x40])
        self.assertEqual(last(START, tcp([0, 1, 0, 0, 0, 2, 255, 7])), [9, 0, 1, 0, 0, 0, 3, 255, 7, 0])

    def test_its_own_number_0_and_255_are_answered_to_the_same(self):
        for unit in (17, 0, 255):
            frame = tcp_frame(unit, WRITE)
            self.assertEqual(run(START, tcp(frame), get(KEPT, 0))[1:], [answered(frame), [5]])
            self.assertEqual(counted(tcp(frame)), [1, 0, 0, 1, 0, 1])

    def test_own_numbers_at_the_edges(self):
        for unit in (1, 247):
            for to in (unit, 0, 255):
                self.assertEqual(last(begin(unit), tcp(tcp_frame(to, [7]))), answered(tcp_frame(to, [7, 0])))
            for to in (2, 246, 17):
                self.assertEqual(last(begin(unit), tcp(tcp_frame(to, [7]))), [0])

    def test_the_two_bytes_are_handed_back(self):
        for handed_back in ([0, 0], [0, 255], [255, 0], [255, 255], [1, 2]):
            self.assertEqual(last(START, tcp(tcp_frame(17, [7], handed_back))),
                             answered(tcp_frame(17, [7, 0], handed_back)))

    def test_every_function_is_carried_out_to_0_and_255(self):
        rows = (
            (request(1, 0, 1), [1, 1, 0]), (request(2, 0, 1), [2, 1, 0]), (request(3, 0, 1), [3, 2, 0, 0]),
            (request(4, 0, 1), [4, 2, 0, 0]), (request(5, 0, 0xFF00), request(5, 0, 0xFF00)), (WRITE, WRITE),
            ([7], [7, 0]), (request(15, 0, 1) + [1, 1], request(15, 0, 1)),
            (request(16, 0, 1) + [2, 1, 2], request(16, 0, 1)), (request(22, 0, 0, 7), request(22, 0, 0, 7)),
            (request(23, 0, 1, 0, 1) + [2, 0, 9], [23, 2, 0, 9]),
        )
        for unit in (17, 0, 255):
            for row, answer in rows:
                self.assertEqual(last(START, tcp(tcp_frame(unit, row))), answered(tcp_frame(unit, answer)))
                self.assertEqual(counted(tcp(tcp_frame(unit, row))), [1, 0, 0, 1, 0, 1])

    def test_writes_take_place(self):
        parts = run(START, tcp(tcp_frame(0, request(5, 3, 0xFF00))), tcp(tcp_frame(255, request(22, 1, 0, 8))),
                    get(COILS, 3), get(KEPT, 1))
        self.assertEqual(parts[3:], [[1], [8]])

    def test_refusals_are_answered_and_counted(self):
        for unit in (17, 0, 255):
            for row, answer in (([99], [227, 1]), (request(3, 200, 1), [131, 2]), ([3], [131, 3]), ([0x83], [3, 1]),
                                ([0], [128, 1]), ([8, 0, 1], [136, 1])):
                self.assertEqual(last(START, tcp(tcp_frame(unit, row))), answered(tcp_frame(unit, answer)))
                self.assertEqual(counted(tcp(tcp_frame(unit, row))), [1, 0, 1, 1, 0, 0])

    def test_a_frame_is_counted_ahead_of_its_request(self):
        for which, expected in ((11, 1), (12, 0), (13, 0), (14, 1), (15, 0)):
            self.assertEqual(last(START, tcp(tcp_frame(17, request(8, which, 0)))),
                             answered(tcp_frame(17, request(8, which, expected))))
        self.assertEqual(last(START, pdu([7]), tcp(tcp_frame(0, [11]))), answered(tcp_frame(0, request(11, 0, 1))))

    def test_all_counts_are_set_back(self):
        row = request(8, 10, 0)
        for unit in (17, 0, 255):
            self.assertEqual(run(START, tcp([]), pdu([7]), tcp(tcp_frame(unit, row)), counts())[3:],
                             [answered(tcp_frame(unit, row)), [0] * 7])


class ToOthers(unittest.TestCase):
    def test_counted_as_right_and_no_more(self):
        for unit in (1, 16, 18, 128, 247, 248, 254):
            for row in (WRITE, [99], [7], request(8, 10, 0)):
                call = tcp(tcp_frame(unit, row))
                self.assertEqual(run(START, call, get(KEPT, 0))[1:], [[0], [0]])
                self.assertEqual(counted(pdu([7]), call), [1, 0, 0, 0, 0, 1])


class Wrong(unittest.TestCase):
    def wrong(self, row):
        self.assertEqual(run(START, tcp(row), get(KEPT, 0), counts())[1:], [[0], [0], [0, 0, 1, 0, 0, 0, 0]], row)

    def test_too_short(self):
        frame = tcp_frame(17, [7])
        self.assertEqual(len(frame), 8)
        for end in range(8):
            self.wrong(frame[:end])
        for unit in (17, 0, 255, 18):
            # How many follow is right, but there is no request.
            self.wrong(tcp_frame(unit, []))
        self.wrong([1, 2, 0, 0, 0, 0])

    def test_how_many_follow(self):
        for unit in (17, 0, 255, 18):
            frame = tcp_frame(unit, WRITE)
            for told in (0, 1, 5, 7, 8, 12, 6 * 256, 256 + 6, 65535):
                self.wrong(frame[:4] + two(told) + frame[6:])
            self.wrong(frame[:-1])
            self.wrong(frame + [0])
            self.wrong(frame[:4] + [6, 0] + frame[6:])

    def test_third_and_fourth_byte(self):
        for unit in (17, 0, 255, 18):
            frame = tcp_frame(unit, WRITE)
            for third, fourth in ((1, 0), (0, 1), (255, 0), (0, 255), (1, 1), (128, 128)):
                self.wrong(frame[:2] + [third, fourth] + frame[4:])

    def test_frames_of_other_framings(self):
        self.wrong([0x11, 3, 0, 0x6B, 0, 3, 0x76, 0x87])
        self.wrong([ord(sign) for sign in ":1103006B00037E\r\n"])


class HowManyBytes(unittest.TestCase):
    def test_none(self):
        self.assertEqual(last(START, tcp([])), [0])
        self.assertEqual(counted(tcp([])), [0, 1, 0, 0, 0, 0])

    def test_the_least(self):
        self.assertEqual(last(START, tcp(tcp_frame(17, [7]))), answered(tcp_frame(17, [7, 0])))

    def test_the_greatest(self):
        frame = tcp_frame(17, request(23, 0, 1, 0, 121) + [242] + [9] * 242)
        self.assertEqual(len(frame), 259)
        self.assertEqual(last(START, tcp(frame)), answered(tcp_frame(17, [23, 2, 9, 9])))
        frame = tcp_frame(17, request(15, 0, 1968) + [246] + [0] * 246)
        self.assertEqual(last(begin(17, 65536), tcp(frame)), answered(tcp_frame(17, request(15, 0, 1968))))
        frame = tcp_frame(17, [99] * 253)
        self.assertEqual((len(frame), frame[4:6]), (260, [0, 254]))
        self.assertEqual(last(START, tcp(frame)), answered(tcp_frame(17, [227, 1])))
        self.assertEqual(last(START, tcp(tcp_frame(17, request(3, 0, 125)))),
                         answered(tcp_frame(17, [3, 250] + [0] * 250)))

    def test_one_more(self):
        self.assertEqual(last(START, tcp(tcp_frame(17, [99] * 254))), [-2])
        self.assertEqual(counted(tcp(tcp_frame(17, [99] * 254))), [0] * 6)


if __name__ == "__main__":
    unittest.main()
