import unittest

from tests.helper import (
    COILS, KEPT, READ_ONLY, answered, ask, begin, counts, get, last, pdu, put, read, request, run, two,
)

UNFIT = [-5]


def told(row, answer):
    return last(begin(), read(row, answer))


def size_of(function, many):
    return (many + 7) // 8 if function < 3 else many * 2


class Bits(unittest.TestCase):
    def test_the_first_bit_is_the_lowest(self):
        for function in (1, 2):
            self.assertEqual(told(request(function, 19, 10), [function, 2, 0b11001101, 0b01]),
                             [10, 1, 0, 1, 1, 0, 0, 1, 1, 1, 0])

    def test_the_last_bytes_rest_is_not_looked_at(self):
        for function in (1, 2):
            for rest in (0, 2, 0x80, 0xFE):
                self.assertEqual(told(request(function, 0, 9), [function, 2, 0, rest + 1]), [9] + [0] * 8 + [1])
                self.assertEqual(told(request(function, 0, 1), [function, 1, rest]), [1, 0])

    def test_how_many(self):
        for function in (1, 2):
            for many in (1, 7, 8, 9, 15, 16, 17, 1999, 2000):
                size = (many + 7) // 8
                self.assertEqual(told(request(function, 0, many), [function, size] + [255] * size), [many] + [1] * many)
            self.assertEqual(told(request(function, 0, 2000), [function, 250] + [0] * 249 + [128]),
                             [2000] + [0] * 1999 + [1])


class Numbers(unittest.TestCase):
    def test_the_higher_byte_comes_first(self):
        for function in (3, 4):
            self.assertEqual(told(request(function, 0x6B, 3), [function, 6, 2, 0x2B, 0, 0, 255, 255]),
                             [3, 555, 0, 65535])

    def test_how_many(self):
        for function in (3, 4):
            self.assertEqual(told(request(function, 0, 1), [function, 2, 1, 0]), [1, 256])
            self.assertEqual(told(request(function, 0, 125), [function, 250] + [1, 2] * 125), [125] + [258] * 125)


class Reads(unittest.TestCase):
    def test_answers_a_byte_too_short_or_too_long(self):
        for function in (1, 2, 3, 4):
            for many in (1, 8, 9, 124):
                size = size_of(function, many)
                row = request(function, 0, many)
                right = [function, size] + [0] * size
                self.assertEqual(told(row, right), [many] + [0] * many)
                for answer in (right[:-1], right + [0], right[:1], right[:2], right + [0, 0]):
                    self.assertEqual(told(row, answer), UNFIT, answer)

    def test_the_greatest_answers_a_byte_too_short_or_too_long(self):
        for function, many in ((1, 2000), (2, 2000), (3, 125), (4, 125)):
            right = [function, 250] + [0] * 250
            self.assertEqual(told(request(function, 0, many), right), [many] + [0] * many)
            for answer in (right[:-1], right + [0]):
                self.assertEqual(told(request(function, 0, many), answer), UNFIT)

    def test_another_number_of_bytes_told(self):
        for function in (1, 2, 3, 4):
            for many in (1, 8, 9, 124):
                size = size_of(function, many)
                for other in (size - 1, size + 1, 0, 255):
                    self.assertEqual(told(request(function, 0, many), [function, other] + [0] * size), UNFIT)
                for other in (size - 1, size + 1, size + 2):
                    self.assertEqual(told(request(function, 0, many), [function, other] + [0] * other), UNFIT)

    def test_answers_of_another_function(self):
        for function in (1, 2, 3, 4):
            size = size_of(function, 16)
            for other in (0, 1, 2, 3, 4, 5, 23, function + 128, 255):
                if other != function:
                    self.assertEqual(told(request(function, 0, 16), [other, size] + [0] * size), UNFIT)

    def test_requests_of_another_length(self):
        for function in (1, 2, 3, 4):
            right = request(function, 0, 1)
            answer = [function, size_of(function, 1)] + [0] * size_of(function, 1)
            for row in (right[:1], right[:2], right[:3], right[:4], right + [0], right + [0, 1]):
                self.assertEqual(told(row, answer), UNFIT, row)

    def test_requests_with_other_counts(self):
        for function, greatest in ((1, 2000), (2, 2000), (3, 125), (4, 125)):
            self.assertEqual(told(request(function, 0, 0), [function, 0]), UNFIT)
            for many in (greatest + 1, 2008, 32768, 65535):
                for size in (250, 251):
                    self.assertEqual(told(request(function, 0, many), [function, size] + [0] * size), UNFIT)

    def test_the_request_itself_is_no_answer(self):
        for function in (1, 2, 3, 4):
            row = request(function, 0, 1)
            self.assertEqual(told(row, row), UNFIT)

    def test_the_last_place(self):
        self.assertEqual(told(request(3, 65535, 1), [3, 2, 0, 7]), [1, 7])
        self.assertEqual(told(request(1, 65535, 1), [1, 1, 1]), [1, 1])


class OneWrite(unittest.TestCase):
    ROWS = (request(5, 3, 0xFF00), request(5, 3, 0), request(6, 3, 9), request(22, 3, 1, 2))

    def test_the_request_itself(self):
        for row in self.ROWS:
            self.assertEqual(told(row, row), [0])

    def test_whether_the_request_is_right_is_not_looked_at(self):
        for function in (5, 6, 22):
            for behind in ([], [1], [0, 0, 0, 1], [255] * 5, [7] * 252):
                row = [function] + behind
                self.assertEqual(told(row, row), [0], row)
        self.assertEqual(told(request(5, 0, 1), request(5, 0, 1)), [0])

    def test_other_answers(self):
        for row in self.ROWS:
            for answer in (row[:-1], row[:1], row + [0], row[:5] + [0]):
                self.assertEqual(told(row, answer), UNFIT)
            for k in range(len(row)):
                self.assertEqual(told(row, row[:k] + [row[k] ^ 1] + row[k + 1:]), UNFIT)

    def test_not_its_first_five_bytes(self):
        row = request(22, 3, 1, 2)
        self.assertEqual(told(row, row[:5]), UNFIT)


class ManyWrites(unittest.TestCase):
    ROWS = (request(15, 3, 9) + [2, 255, 1], request(16, 3, 2) + [4, 0, 1, 0, 2])

    def test_its_first_five_bytes(self):
        for row in self.ROWS:
            self.assertEqual(told(row, row[:5]), [0])

    def test_whether_the_request_is_right_is_not_looked_at(self):
        for function in (15, 16):
            for behind in ([0] * 5, [255] * 5, [1, 2, 3, 4, 5, 6], [7] * 252):
                self.assertEqual(told([function] + behind, [function] + behind[:4]), [0])

    def test_six_bytes_at_least(self):
        for function in (15, 16):
            for many in range(1, 6):
                row = [function] + [0] * (many - 1)
                self.assertEqual(told(row, row), UNFIT)
                self.assertEqual(told(row, row[:5]), UNFIT)
            self.assertEqual(told([function] + [0] * 4, [function] + [0] * 4), UNFIT)
            self.assertEqual(told([function] + [0] * 5, [function] + [0] * 4), [0])

    def test_other_answers(self):
        for row in self.ROWS:
            for answer in (row, row[:4], row[:6], row[:1], row[:5] + [0]):
                self.assertEqual(told(row, answer), UNFIT)
            for k in range(5):
                answer = row[:k] + [row[k] ^ 1] + row[k + 1:5]
                self.assertEqual(told(row, answer), UNFIT)


class OtherFunctions(unittest.TestCase):
    def test_they_are_not_read(self):
        for function in range(256):
            if function not in (1, 2, 3, 4, 5, 6, 15, 16, 22):
                row = request(function, 0, 1) + [2, 0, 0]
                for answer in (row, row[:5], [function], [function, 2, 0, 0], [function, 1, 0], [function, 0]):
                    self.assertEqual(told(row, answer), UNFIT, (row, answer))
                self.assertEqual(told([function], [function]), UNFIT)

    def test_right_answers_of_a_device(self):
        start = begin(17, 10, 10, 10, 10)
        for row in ([7], [11], request(8, 0, 5), request(23, 0, 1, 0, 1) + [2, 0, 9]):
            answer = last(start, pdu(row))[1:]
            self.assertEqual(told(row, answer), UNFIT)


class Refusals(unittest.TestCase):
    def test_of_every_function_below_128(self):
        for function in range(128):
            for reason in (1, 2, 3, 4, 128, 255):
                for row in ([function], request(function, 0, 1)):
                    self.assertEqual(told(row, [function + 128, reason]), [-256 - reason])

    def test_reason_0(self):
        self.assertEqual(told([3], [131, 0]), [-256])

    def test_of_another_function(self):
        for function in (1, 2, 3, 4, 5, 6, 7, 15, 16, 22, 23, 127):
            for other in (0, function - 1, function + 1, 99):
                if other not in (function, 128):
                    self.assertEqual(told(request(function, 0, 1), [other + 128, 2]), UNFIT)

    def test_of_a_function_of_128_and_more(self):
        for function in range(128, 256):
            for answer in ([function - 128, 2], [function, 2], [128, 1]):
                self.assertEqual(told([function], answer), UNFIT)
                self.assertEqual(told(request(function, 0, 1), answer), UNFIT)

    def test_of_another_length(self):
        for function in (0, 1, 3, 5, 15, 22, 127):
            for answer in ([function + 128], [function + 128, 2, 0], [function + 128, 2, 0, 0]):
                self.assertEqual(told(request(function, 0, 1), answer), UNFIT)

    def test_what_a_device_refuses(self):
        for row, reason in (([99], 1), (request(3, 10, 1), 2), ([3], 3), (request(16, 0, 1), 3), ([8, 0, 1], 1)):
            answer = last(begin(17, 10, 10, 10, 10), pdu(row))[1:]
            self.assertEqual(told(row, answer), [-256 - reason])


class HowManyBytes(unittest.TestCase):
    def test_none(self):
        for row, answer in (([], []), ([], [131, 2]), ([3], []), ([], [0]), (request(3, 0, 1), []), ([], [128, 1]),
                            ([200], []), ([], [5] * 253)):
            self.assertEqual(told(row, answer), [-2])

    def test_the_least(self):
        self.assertEqual(told([5], [5]), [0])
        self.assertEqual(told([3], [3]), UNFIT)

    def test_the_greatest(self):
        self.assertEqual(told([5] * 253, [5] * 253), [0])
        self.assertEqual(told([16] * 253, [16] * 5), [0])
        self.assertEqual(told([3] * 253, [131, 2]), [-258])
        self.assertEqual(told(request(3, 0, 1), [3] * 253), UNFIT)

    def test_one_more(self):
        self.assertEqual(told([5] * 254, [5] * 254), [-2])
        self.assertEqual(told([5] * 253, [5] * 254), [-2])
        self.assertEqual(told([3] * 254, [131, 2]), [-2])


class WithTheDevice(unittest.TestCase):
    def test_it_changes_nothing(self):
        parts = run(begin(17, 1, 1, 1, 1), read(request(6, 0, 5), request(6, 0, 5)), read([99], [227, 1]), read([], []),
                    read(request(5, 0, 0xFF00), request(5, 0, 0xFF00)), get(KEPT, 0), get(COILS, 0), counts())
        self.assertEqual(parts[1:], [[0], [-257], [-2], [0], [0], [0], [0] * 7])

    def test_asked_carried_out_and_read(self):
        start = begin(17, 2000, 2000, 200, 200)
        sets = [put(COILS, 1, 1), put(COILS, 8, 1), put(KEPT, 0, 65535), put(KEPT, 2, 7), put(READ_ONLY, 1, 300)]
        for function, values in ((1, [0, 1, 0, 0, 0, 0, 0, 0, 1]), (2, [0] * 9), (3, [65535, 0, 7]), (4, [0, 300])):
            row = last(start, ask(function, 0, len(values)))[1:]
            answer = last(start, *sets, pdu(row))[1:]
            self.assertEqual(told(row, answer), answered(values))
        for function, count in ((5, 1), (6, 1), (15, 9), (15, 1968), (16, 123), (22, 2)):
            row = last(start, ask(function, 0, count, [3] * count))[1:]
            answer = last(start, pdu(row))[1:]
            self.assertEqual(told(row, answer), [0])

    def test_each_list_is_behind_its_own_length(self):
        self.assertEqual(last([0, 17, 0, 0, 0, 0], [11, 5, 3, 0, 0, 0, 1, 4, 3, 2] + two(513)), [1, 513])


if __name__ == "__main__":
    unittest.main()
