import unittest

from bitdevice.sums import crc, lrc
from tests.helper import (
    COILS, KEPT, answered, ascii_text, begin, counts_after, crc_of, get, last, line, pdu, put, request, rtu,
    rtu_frame, run,
)

START = begin(17, 20, 20, 200, 20)
READ = request(3, 0x6B, 3)


def signs(text):
    return [ord(sign) for sign in text]


class Sums(unittest.TestCase):
    def test_crc(self):
        self.assertEqual(crc([]), 0xFFFF)
        self.assertEqual(crc(signs("123456789")), 0x4B37)
        self.assertEqual(crc([0x11, 3, 0, 0x6B, 0, 3]), 0x8776)
        for part in range(256):
            self.assertEqual(crc([part]), crc_of([part]))
            self.assertEqual(crc([0, part, 255]), crc_of([0, part, 255]))

    def test_lrc(self):
        self.assertEqual(lrc([]), 0)
        self.assertEqual(lrc([0]), 0)
        self.assertEqual(lrc([1]), 255)
        self.assertEqual(lrc([255]), 1)
        self.assertEqual(lrc([128, 128]), 0)
        self.assertEqual(lrc([0x11, 3, 0, 0x6B, 0, 3]), 0x7E)
        self.assertEqual(lrc([255] * 300), 44)


def framings():
    """Each framing's way to write a call and the answer that belongs to a request's answer."""
    return (
        (lambda unit, row: rtu(rtu_frame(unit, row)), rtu_frame),
        (lambda unit, row: line(ascii_text(unit, row)), lambda unit, row: signs(ascii_text(unit, row))),
    )


class BothFramings(unittest.TestCase):
    def test_to_its_own_number(self):
        for call, frame in framings():
            for unit in (1, 17, 247):
                start = begin(unit, 0, 0, 200, 0)
                sets = [put(KEPT, 0x6B, 0xAE41), put(KEPT, 0x6C, 0x5652), put(KEPT, 0x6D, 0x4340)]
                self.assertEqual(last(start, *sets, call(unit, READ)),
                                 answered(frame(unit, [3, 6, 0xAE, 0x41, 0x56, 0x52, 0x43, 0x40])))
                self.assertEqual(counts_after(start, call(unit, READ)), [1, 0, 0, 1, 0, 1])

    def test_refusals_are_answered(self):
        for call, frame in framings():
            for row, answer in (([99], [227, 1]), (request(3, 200, 1), [131, 2]), ([3], [131, 3]), ([0x83], [3, 1])):
                self.assertEqual(last(START, call(17, row)), answered(frame(17, answer)))
                self.assertEqual(counts_after(START, call(17, row)), [1, 0, 1, 1, 0, 0])

    def test_to_another_number(self):
        for call, frame in framings():
            for unit in (1, 16, 18, 247, 248, 255):
                write = call(unit, request(6, 0, 5))
                self.assertEqual(run(START, write, get(KEPT, 0))[1:], [[0], [0]])
                self.assertEqual(counts_after(START, write), [1, 0, 0, 0, 0, 0])
                self.assertEqual(counts_after(START, call(unit, [99])), [1, 0, 0, 0, 0, 0])

    def test_for_all_writes_are_carried_out(self):
        writes = (
            (request(5, 0, 0xFF00), COILS, 1), (request(6, 0, 5), KEPT, 5), (request(15, 0, 1) + [1, 1], COILS, 1),
            (request(16, 0, 1) + [2, 1, 2], KEPT, 258), (request(22, 0, 0, 7), KEPT, 7),
        )
        for call, frame in framings():
            for row, table, value in writes:
                self.assertEqual(run(START, call(0, row), get(table, 0))[1:], [[0], [value]])
                self.assertEqual(counts_after(START, call(0, row)), [1, 0, 0, 1, 1, 1])

    def test_for_all_refusals_count_and_are_not_answered(self):
        for call, frame in framings():
            for row in ([5], request(6, 200, 5), [15], request(16, 0, 0) + [0], request(22, 0, 0)):
                self.assertEqual(last(START, call(0, row)), [0])
                self.assertEqual(counts_after(START, call(0, row)), [1, 0, 1, 1, 1, 0])

    def test_for_all_other_functions_are_not_carried_out(self):
        others = [
            request(1, 0, 1), request(2, 0, 1), request(3, 0, 1), request(4, 0, 1), [7], [8], request(8, 10, 0),
            [11], [99], [0], [133], request(23, 0, 1, 0, 1) + [2, 0, 9],
        ]
        for call, frame in framings():
            for row in others:
                self.assertEqual(run(START, call(0, row), get(KEPT, 0))[1:], [[0], [0]])
                self.assertEqual(counts_after(START, pdu([7]), call(0, row)), [1, 0, 0, 1, 1, 1])

    def test_the_least_and_the_greatest_frame(self):
        for call, frame in framings():
            self.assertEqual(last(START, call(17, [7])), answered(frame(17, [7, 0])))
            longest = request(23, 0, 1, 0, 121) + [242] + [9] * 242
            self.assertEqual(last(START, call(17, longest)), answered(frame(17, [23, 2, 9, 9])))
            longest = [99] * 253
            self.assertEqual(last(START, call(17, longest)), answered(frame(17, [227, 1])))
            self.assertEqual(last(START, call(17, request(3, 0, 125))), answered(frame(17, [3, 250] + [0] * 250)))


class Wrong(unittest.TestCase):
    def wrong(self, *calls):
        for call in calls:
            self.assertEqual(run(START, call, get(KEPT, 0), get(KEPT, 1))[1:], [[0], [0], [0]])
            self.assertEqual(counts_after(START, call), [0, 1, 0, 0, 0, 0])


class Rtu(Wrong):
    def test_frames_written_out(self):
        self.assertEqual(last(START, rtu([0x11, 3, 0, 0x6B, 0, 3, 0x76, 0x87])),
                         [11, 0x11, 3, 6, 0, 0, 0, 0, 0, 0, 0xEC, 0xB5])
        self.assertEqual(last(begin(1, kept=10), rtu([1, 3, 0, 0, 0, 10, 0xC5, 0xCD]))[:4], [25, 1, 3, 20])

    def test_wrong_sums(self):
        frame = rtu_frame(17, request(6, 0, 5))
        swapped = frame[:-2] + [frame[-1], frame[-2]]
        self.wrong(rtu(swapped))
        for k in range(len(frame)):
            for bit in (1, 16, 128):
                self.wrong(rtu(frame[:k] + [frame[k] ^ bit] + frame[k + 1:]))

    def test_too_short(self):
        self.wrong(rtu([]), rtu([17]), rtu([17, 7]), rtu([17, 7, 0]))
        # Their sums are right, but there is no request or no number.
        self.wrong(rtu([255, 255]), rtu(rtu_frame(17, [])), rtu(rtu_frame(0, [])))

    def test_cut_off_or_with_more_behind(self):
        frame = rtu_frame(17, request(6, 0, 5))
        self.wrong(*[rtu(frame[:end]) for end in range(len(frame))])
        self.wrong(rtu(frame + [1]), rtu([1] + frame))
        # A 0 behind a right frame makes another right one, whose request is a byte longer.
        self.assertEqual(last(START, rtu(frame + [0])), answered(rtu_frame(17, [134, 3])))

    def test_wrong_frames_for_all(self):
        frame = rtu_frame(0, request(6, 0, 5))
        self.wrong(rtu(frame[:-1] + [frame[-1] ^ 1]))


class Ascii(Wrong):
    def test_frames_written_out(self):
        self.assertEqual(last(START, line(":1103006B00037E\r\n")), answered(signs(":110306000000000000E6\r\n")))
        self.assertEqual(last(START, put(KEPT, 0, 0xABCD), put(KEPT, 1, 0xEF09), line(":110300000002EA\r\n")),
                         answered(signs(":110304ABCDEF0978\r\n")))

    def test_wrong_sums(self):
        self.wrong(line(":1103006B00037F\r\n"), line(":1103006B00037D\r\n"), line(":1106000000050E4\r\n"))
        text = ascii_text(17, request(6, 0, 5))
        for k in range(1, len(text) - 2):
            other = "0" if text[k] != "0" else "F"
            self.wrong(line(text[:k] + other + text[k + 1:]))

    def test_signs_that_are_not_digits(self):
        text = ascii_text(17, request(6, 0, 5))
        for k in range(1, len(text) - 2):
            for sign in "/:@Gag \r\n\0`\xff":
                self.wrong(line(text[:k] + sign + text[k + 1:]))

    def test_signs_beside_the_digits_where_the_sum_would_be_right(self):
        right = ascii_text(17, request(6, 0, 0xA9A9))
        for digit, sign in (("A", ":"), ("9", "@")):
            self.assertIn(digit, right)
            self.wrong(line(right.replace(digit, sign)))

    def test_small_letters_are_not_digits(self):
        right = ascii_text(17, request(6, 0, 0xABCD))
        for letter in "ABCD":
            self.assertIn(letter, right)
            self.wrong(line(right.replace(letter, letter.lower())))

    def test_each_digit(self):
        for number in (0x0123, 0x4567, 0x89AB, 0xCDEF):
            row = request(6, 0, number)
            self.assertEqual(run(START, line(ascii_text(17, row)), get(KEPT, 0))[1:],
                             [answered(signs(ascii_text(17, row))), [number]])

    def test_a_digit_too_few_or_too_many(self):
        text = ascii_text(17, request(6, 0, 5))
        self.wrong(line(text[:-3] + "\r\n"), line(text[:-2] + "0\r\n"), line(":0" + text[1:]))

    def test_without_its_colon(self):
        text = ascii_text(17, request(6, 0, 5))
        self.wrong(line(text[1:]), line("0" + text[1:]), line(";" + text[1:]), line("::" + text[1:]))

    def test_without_its_end(self):
        text = ascii_text(17, request(6, 0, 5))
        body = text[:-2]
        self.wrong(*[line(body + end) for end in ("", "\r", "\n", "\n\r", "\r\r", "\n\n", "\r\n\r\n", "\r\n0", "00")])
        self.wrong(line("0" + text))

    def test_too_short(self):
        self.wrong(line(""), line(":"), line("\r\n"), line(":\r\n"), line(":00\r\n"), line(":\r"), line("\n"))
        # Their sums are right, but there is no request.
        self.wrong(line(":11EF\r\n"), line(":0000\r\n"))

    def test_the_longest(self):
        text = ascii_text(17, [99] * 253)
        self.assertEqual(len(text), 513)
        self.assertEqual(counts_after(START, line(text)), [1, 0, 1, 1, 0, 0])
        self.wrong(line(text[:-4] + "00\r\n"))


if __name__ == "__main__":
    unittest.main()
