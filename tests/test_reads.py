import unittest

from tests.helper import COILS, INPUTS, KEPT, READ_ONLY, answered, begin, last, pdu, put, refused, request, two

BIT_READS = ((1, COILS), (2, INPUTS))
NUMBER_READS = ((3, KEPT), (4, READ_ONLY))
FULL = begin(17, 65536, 65536, 65536, 65536)
SMALL = begin(17, 20, 20, 20, 20)


def size_of(table, size):
    sizes = [0] * 4
    sizes[table] = size
    return [0, 17] + sizes


class BitReads(unittest.TestCase):
    def test_the_first_bit_is_the_lowest(self):
        for function, table in BIT_READS:
            sets = [put(table, at, 1) for at in (3, 5, 10, 12)]
            self.assertEqual(last(SMALL, *sets, pdu(request(function, 3, 10))), [4, function, 2, 0b10000101, 0b10])

    def test_the_last_bytes_rest_is_0(self):
        for function, table in BIT_READS:
            sets = [put(table, at, 1) for at in range(20)]
            for many, row in ((1, [1]), (7, [127]), (8, [255]), (9, [255, 1]), (16, [255, 255]), (20, [255, 255, 15])):
                self.assertEqual(last(SMALL, *sets, pdu(request(function, 0, many))),
                                 answered([function, len(row)] + row))

    def test_each_reads_its_own_table(self):
        for function, table in BIT_READS:
            for other in range(4):
                expected = [3, function, 1, 1 if other == table else 0]
                self.assertEqual(last(SMALL, put(other, 2, 1), pdu(request(function, 2, 1))), expected)

    def test_how_many(self):
        for function, table in BIT_READS:
            self.assertEqual(last(FULL, put(table, 1999, 1), pdu(request(function, 0, 2000))),
                             answered([function, 250] + [0] * 249 + [128]))
            for many in (0, 2001, 65535):
                self.assertEqual(last(FULL, pdu(request(function, 0, many))), refused(function, 3))


class NumberReads(unittest.TestCase):
    def test_the_higher_byte_comes_first(self):
        for function, table in NUMBER_READS:
            sets = [put(table, 1, 0x1234), put(table, 2, 0xFF), put(table, 3, 0xFFFF)]
            self.assertEqual(last(SMALL, *sets, pdu(request(function, 1, 3))),
                             [8, function, 6, 0x12, 0x34, 0, 255, 255, 255])

    def test_each_reads_its_own_table(self):
        for function, table in NUMBER_READS:
            for other in range(4):
                expected = [4, function, 2, 0, 1 if other == table else 0]
                self.assertEqual(last(SMALL, put(other, 2, 1), pdu(request(function, 2, 1))), expected)

    def test_how_many(self):
        for function, table in NUMBER_READS:
            self.assertEqual(last(FULL, put(table, 124, 513), pdu(request(function, 0, 125))),
                             answered([function, 250] + [0] * 248 + [2, 1]))
            for many in (0, 126, 2000, 65535):
                self.assertEqual(last(FULL, pdu(request(function, 0, many))), refused(function, 3))


class AllReads(unittest.TestCase):
    def test_lengths(self):
        for function in (1, 2, 3, 4):
            right = request(function, 0, 1)
            for row in (right[:1], right[:2], right[:3], right[:4], right + [0], right + [0, 0]):
                self.assertEqual(last(SMALL, pdu(row)), refused(function, 3))

    def test_first_and_last_places(self):
        for function, table in BIT_READS + NUMBER_READS:
            start = size_of(table, 20)
            for place, many in ((0, 1), (0, 20), (19, 1), (10, 10)):
                self.assertEqual(last(start, pdu(request(function, place, many)))[1], function)
            for place, many in ((20, 1), (19, 2), (0, 21), (11, 10), (65535, 1)):
                self.assertEqual(last(start, pdu(request(function, place, many))), refused(function, 2))

    def test_tables_without_places(self):
        for function, table in BIT_READS + NUMBER_READS:
            sizes = [65536] * 4
            sizes[table] = 0
            self.assertEqual(last([0, 17] + sizes, pdu(request(function, 0, 1))), refused(function, 2))

    def test_greatest_tables(self):
        for function, table in BIT_READS + NUMBER_READS:
            start = size_of(table, 65536)
            row = [1] if function < 3 else [0, 1]
            self.assertEqual(last(start, put(table, 65535, 1), pdu(request(function, 65535, 1))),
                             answered([function, len(row)] + row))
            self.assertEqual(last(start, pdu(request(function, 65535, 2))), refused(function, 2))

    def test_a_wrong_value_comes_before_a_missing_place(self):
        for function in (1, 2, 3, 4):
            for many in (0, 2001):
                self.assertEqual(last(begin(), pdu(request(function, 9, many))), refused(function, 3))
            self.assertEqual(last(begin(), pdu(request(function, 9, 1) + [0])), refused(function, 3))


class Status(unittest.TestCase):
    def test_the_first_eight_coils(self):
        sets = [put(COILS, at, 1) for at in (0, 2, 7, 8, 9)] + [put(INPUTS, 1, 1)]
        self.assertEqual(last(SMALL, *sets, pdu([7])), [2, 7, 0b10000101])

    def test_coils_that_there_are_not_stand_as_0(self):
        self.assertEqual(last(begin(), pdu([7])), [2, 7, 0])
        for size in (1, 7, 8, 9):
            sets = [put(COILS, at, 1) for at in range(size)]
            self.assertEqual(last(begin(coils=size), *sets, pdu([7])), [2, 7, 2 ** min(size, 8) - 1])

    def test_lengths(self):
        for row in ([7, 0], [7, 0, 0], [7] + two(0) + two(0)):
            self.assertEqual(last(SMALL, pdu(row)), refused(7, 3))


if __name__ == "__main__":
    unittest.main()
