import unittest

from tests.helper import (
    COILS, INPUTS, KEPT, READ_ONLY, answered, begin, get, last, pdu, put, refused, request, run,
)

SMALL = begin(17, 20, 20, 20, 20)
FULL = begin(17, 65536, 65536, 65536, 65536)
NONE = begin(17, 0, 65536, 0, 65536)


def coils_row(place, many, row):
    return request(15, place, many) + [len(row)] + row


def kept_row(place, numbers):
    return request(16, place, len(numbers)) + [2 * len(numbers)] + request(0, *numbers)[1:]


def write_and_read(place, many, place_to_write, numbers):
    return request(23, place, many, place_to_write, len(numbers)) + [2 * len(numbers)] + request(0, *numbers)[1:]


def table_after(start, calls, table, size):
    """What a small table holds, and that no other table has changed."""
    gets = [get(which, at) for which in range(4) for at in range(size)]
    parts = [part[0] for part in run(start, *calls, *gets)[-4 * size:]]
    others = parts[:table * size] + parts[(table + 1) * size:]
    if any(others):
        raise AssertionError("another table has changed")
    return parts[table * size:(table + 1) * size]


class Refusing(unittest.TestCase):
    def refuse(self, start, row, reason):
        self.assertEqual(last(start, pdu(row)), refused(row[0], reason), row)

    def refuse_lengths(self, right):
        for end in range(1, len(right)):
            self.refuse(FULL, right[:end], 3)
        self.refuse(FULL, right + [0], 3)
        self.refuse(FULL, right + [0, 0], 3)


class OneCoil(Refusing):
    def test_on_and_off(self):
        for at in (0, 7, 19):
            on = request(5, at, 0xFF00)
            off = request(5, at, 0)
            self.assertEqual(last(SMALL, pdu(on)), answered(on))
            self.assertEqual(table_after(SMALL, [pdu(on)], COILS, 20), [1 if k == at else 0 for k in range(20)])
            self.assertEqual(last(SMALL, pdu(on), pdu(off)), answered(off))
            self.assertEqual(table_after(SMALL, [pdu(on), pdu(off)], COILS, 20), [0] * 20)

    def test_other_values(self):
        for value in (1, 0xFF, 0xFF01, 0xFE00, 0xFFFF, 0x0100):
            self.refuse(SMALL, request(5, 0, value), 3)
            self.assertEqual(last(SMALL, put(COILS, 0, 1), pdu(request(5, 0, value)), get(COILS, 0)), [1])
            self.assertEqual(last(SMALL, pdu(request(5, 0, value)), get(COILS, 0)), [0])

    def test_places(self):
        self.assertEqual(last(FULL, pdu(request(5, 65535, 0xFF00)), get(COILS, 65535)), [1])
        for start, place in ((SMALL, 20), (SMALL, 65535), (NONE, 0)):
            self.refuse(start, request(5, place, 0xFF00), 2)
            self.refuse(start, request(5, place, 1), 3)

    def test_lengths(self):
        self.refuse_lengths(request(5, 0, 0xFF00))
        self.refuse(NONE, request(5, 0, 0xFF00)[:4], 3)


class OneRegister(Refusing):
    def test_values(self):
        for value in (0, 1, 255, 256, 0x1234, 65535):
            row = request(6, 3, value)
            self.assertEqual(last(SMALL, put(KEPT, 3, 77), pdu(row)), answered(row))
            self.assertEqual(table_after(SMALL, [put(KEPT, 3, 77), pdu(row)], KEPT, 20),
                             [value if k == 3 else 0 for k in range(20)])

    def test_places(self):
        self.assertEqual(last(SMALL, pdu(request(6, 19, 8)), get(KEPT, 19)), [8])
        self.assertEqual(last(FULL, pdu(request(6, 65535, 8)), get(KEPT, 65535)), [8])
        for start, place in ((SMALL, 20), (SMALL, 65535), (NONE, 0)):
            self.refuse(start, request(6, place, 8), 2)
            self.refuse(start, request(6, place, 8) + [0], 3)

    def test_lengths(self):
        self.refuse_lengths(request(6, 0, 1))


class Mask(Refusing):
    def test_the_worked_values(self):
        row = request(22, 4, 0x00F2, 0x0025)
        self.assertEqual(run(SMALL, put(KEPT, 4, 0x12), pdu(row), get(KEPT, 4))[2:], [answered(row), [0x17]])

    def test_the_edges_of_a_and_b(self):
        for old, a, b, fresh in (
            (0x1234, 0xFFFF, 0xFFFF, 0x1234), (0x1234, 0, 0xABCD, 0xABCD), (0x1234, 0, 0, 0),
            (0xFFFF, 0xFF00, 0x0F0F, 0xFF0F), (0, 0xFF00, 0xFFFF, 0x00FF), (0xFFFF, 0x8001, 0, 0x8001),
        ):
            calls = [put(KEPT, 0, old), pdu(request(22, 0, a, b))]
            self.assertEqual(table_after(SMALL, calls, KEPT, 20), [fresh] + [0] * 19)

    def test_places(self):
        self.assertEqual(last(SMALL, pdu(request(22, 19, 0, 5)), get(KEPT, 19)), [5])
        self.assertEqual(last(FULL, pdu(request(22, 65535, 0, 5)), get(KEPT, 65535)), [5])
        for start, place in ((SMALL, 20), (SMALL, 65535), (NONE, 0)):
            self.refuse(start, request(22, place, 0, 5), 2)
            self.refuse(start, request(22, place, 0, 5) + [0], 3)
            self.refuse(start, request(22, place, 0), 3)

    def test_lengths(self):
        self.refuse_lengths(request(22, 0, 0, 5))


class ManyCoils(Refusing):
    def test_the_first_bit_is_the_lowest(self):
        row = coils_row(3, 10, [0b11001101, 0b01])
        self.assertEqual(last(SMALL, pdu(row)), answered(row[:5]))
        self.assertEqual(table_after(SMALL, [pdu(row)], COILS, 20),
                         [0, 0, 0, 1, 0, 1, 1, 0, 0, 1, 1, 1, 0, 0, 0, 0, 0, 0, 0, 0])

    def test_coils_become_0_too(self):
        ones = [put(COILS, at, 1) for at in range(20)]
        self.assertEqual(table_after(SMALL, ones + [pdu(coils_row(2, 3, [0b010]))], COILS, 20),
                         [1, 1, 0, 1, 0] + [1] * 15)

    def test_the_last_bytes_rest_is_not_looked_at(self):
        row = coils_row(0, 9, [0, 0xFE])
        self.assertEqual(last(SMALL, pdu(row)), answered(row[:5]))
        self.assertEqual(table_after(SMALL, [pdu(row)], COILS, 20), [0] * 20)
        self.assertEqual(last(begin(coils=1), pdu(coils_row(0, 1, [255])), get(COILS, 0)), [1])

    def test_how_many(self):
        row = coils_row(0, 1968, [0] * 245 + [128])
        self.assertEqual(run(FULL, pdu(row), get(COILS, 1967), get(COILS, 1966), get(COILS, 1968))[1:],
                         [answered(row[:5]), [1], [0], [0]])
        self.refuse(FULL, coils_row(0, 0, []), 3)
        self.refuse(FULL, coils_row(0, 0, [1]), 3)
        self.refuse(FULL, coils_row(0, 1969, [0] * 247), 3)
        self.refuse(FULL, coils_row(0, 2048, [0] * 246), 3)
        self.refuse(FULL, coils_row(0, 65535, [0] * 247), 3)

    def test_how_many_bytes_follow(self):
        for many, right in ((1, 1), (8, 1), (9, 2), (16, 2), (17, 3)):
            self.assertEqual(last(FULL, pdu(coils_row(0, many, [0] * right))), answered(request(15, 0, many)))
            self.refuse(FULL, coils_row(0, many, [0] * (right - 1)), 3)
            self.refuse(FULL, coils_row(0, many, [0] * (right + 1)), 3)
            self.refuse(FULL, request(15, 0, many) + [right + 1] + [0] * right, 3)
            self.refuse(FULL, request(15, 0, many) + [right - 1] + [0] * right, 3)
            self.refuse(FULL, request(15, 0, many) + [right] + [0] * (right + 1), 3)

    def test_places(self):
        self.assertEqual(last(SMALL, pdu(coils_row(10, 10, [0, 2])), get(COILS, 19)), [1])
        self.assertEqual(last(FULL, pdu(coils_row(65535, 1, [1])), get(COILS, 65535)), [1])
        for start, place, many in ((SMALL, 11, 10), (SMALL, 20, 9), (FULL, 65535, 9), (NONE, 0, 9)):
            self.refuse(start, coils_row(place, many, [255, 255]), 2)
            self.refuse(start, coils_row(place, many, [255]), 3)
            self.refuse(start, coils_row(place, 0, []), 3)

    def test_what_is_refused_writes_nothing(self):
        for row in (coils_row(11, 10, [255, 255]), coils_row(0, 9, [255]), coils_row(0, 8, [255, 255])):
            self.assertEqual(table_after(SMALL, [pdu(row)], COILS, 20), [0] * 20)

    def test_lengths(self):
        self.refuse_lengths(coils_row(0, 9, [1, 1]))


class ManyRegisters(Refusing):
    def test_values(self):
        row = kept_row(2, [0x1234, 0, 65535])
        self.assertEqual(last(SMALL, pdu(row)), answered(row[:5]))
        self.assertEqual(table_after(SMALL, [put(KEPT, 3, 5), put(KEPT, 5, 6), pdu(row)], KEPT, 20),
                         [0, 0, 0x1234, 0, 65535, 6] + [0] * 14)

    def test_how_many(self):
        row = kept_row(0, list(range(1, 124)))
        self.assertEqual(run(FULL, pdu(row), get(KEPT, 0), get(KEPT, 122), get(KEPT, 123))[1:],
                         [answered(row[:5]), [1], [123], [0]])
        self.refuse(FULL, kept_row(0, []), 3)
        self.refuse(FULL, request(16, 0, 0) + [2, 0, 0], 3)
        # 124 registers would need a byte more than a request has.
        self.refuse(FULL, request(16, 0, 124) + [247] + [0] * 247, 3)
        self.refuse(FULL, request(16, 0, 124) + [246] + [0] * 246, 3)
        self.refuse(FULL, request(16, 0, 128) + [0], 3)
        self.refuse(FULL, request(16, 0, 65535) + [246] + [0] * 246, 3)

    def test_how_many_bytes_follow(self):
        for size in (1, 3, 5, 6, 8):
            self.refuse(FULL, request(16, 0, 2) + [size] + [0] * 4, 3)
            self.refuse(FULL, request(16, 0, 2) + [4] + [0] * size, 3)
            self.refuse(FULL, request(16, 0, 2) + [size] + [0] * size, 3)

    def test_places(self):
        self.assertEqual(last(SMALL, pdu(kept_row(18, [1, 2])), get(KEPT, 19)), [2])
        self.assertEqual(last(FULL, pdu(kept_row(65535, [3])), get(KEPT, 65535)), [3])
        for start, place in ((SMALL, 19), (SMALL, 20), (FULL, 65535), (NONE, 0)):
            self.refuse(start, kept_row(place, [1, 2]), 2)
            self.refuse(start, kept_row(place, [1, 2]) + [0], 3)
            self.refuse(start, kept_row(place, []), 3)

    def test_what_is_refused_writes_nothing(self):
        for row in (kept_row(19, [1, 2]), kept_row(0, [1, 2])[:-1], kept_row(0, [1, 2]) + [0]):
            self.assertEqual(table_after(SMALL, [pdu(row)], KEPT, 20), [0] * 20)

    def test_lengths(self):
        self.refuse_lengths(kept_row(0, [1, 2]))


class WriteAndRead(Refusing):
    def test_written_first_then_read(self):
        row = write_and_read(1, 4, 2, [0x1234, 65535])
        calls = [put(KEPT, at, at + 1) for at in range(6)]
        self.assertEqual(last(SMALL, *calls, pdu(row)), answered([23, 8, 0, 2, 0x12, 0x34, 255, 255, 0, 5]))
        self.assertEqual(table_after(SMALL, calls + [pdu(row)], KEPT, 20), [1, 2, 0x1234, 65535, 5, 6] + [0] * 14)

    def test_written_elsewhere_than_read(self):
        row = write_and_read(0, 1, 10, [9])
        self.assertEqual(run(SMALL, put(KEPT, 0, 3), pdu(row), get(KEPT, 10))[2:], [[4, 23, 2, 0, 3], [9]])

    def test_how_many(self):
        row = write_and_read(0, 125, 4, list(range(1, 122)))
        expected = request(0, *([0] * 4 + list(range(1, 122))))[1:]
        self.assertEqual(last(FULL, pdu(row)), answered([23, 250] + expected))
        self.refuse(FULL, write_and_read(0, 0, 0, [1]), 3)
        self.refuse(FULL, write_and_read(0, 126, 0, [1]), 3)
        self.refuse(FULL, write_and_read(0, 1, 0, []), 3)
        self.refuse(FULL, request(23, 0, 1, 0, 0) + [2, 0, 0], 3)
        # 122 registers would need a byte more than a request has.
        self.refuse(FULL, request(23, 0, 1, 0, 122) + [243] + [0] * 243, 3)
        self.refuse(FULL, request(23, 0, 1, 0, 122) + [242] + [0] * 242, 3)
        self.refuse(FULL, request(23, 0, 1, 0, 128) + [0], 3)

    def test_how_many_bytes_follow(self):
        for size in (1, 3, 5, 6, 8):
            self.refuse(FULL, request(23, 0, 1, 0, 2) + [size] + [0] * 4, 3)
            self.refuse(FULL, request(23, 0, 1, 0, 2) + [4] + [0] * size, 3)
            self.refuse(FULL, request(23, 0, 1, 0, 2) + [size] + [0] * size, 3)

    def test_places(self):
        self.assertEqual(last(SMALL, pdu(write_and_read(18, 2, 18, [5, 6]))), [6, 23, 4, 0, 5, 0, 6])
        self.assertEqual(last(FULL, pdu(write_and_read(65535, 1, 65535, [5]))), [4, 23, 2, 0, 5])
        for start, place, place_to_write in (
            (SMALL, 19, 0), (SMALL, 0, 19), (SMALL, 20, 20), (FULL, 65535, 0), (FULL, 0, 65535), (NONE, 0, 0),
        ):
            self.refuse(start, write_and_read(place, 2, place_to_write, [1, 2]), 2)
            self.refuse(start, write_and_read(place, 2, place_to_write, [1, 2]) + [0], 3)
            self.refuse(start, write_and_read(place, 126, place_to_write, [1, 2]), 3)
            self.refuse(start, write_and_read(place, 2, place_to_write, []), 3)

    def test_what_is_refused_writes_nothing(self):
        for row in (write_and_read(19, 2, 0, [1, 2]), write_and_read(0, 2, 19, [1, 2]),
                    write_and_read(0, 126, 0, [1, 2]), write_and_read(0, 2, 0, [1, 2]) + [0]):
            self.assertEqual(table_after(SMALL, [pdu(row)], KEPT, 20), [0] * 20)

    def test_lengths(self):
        self.refuse_lengths(write_and_read(0, 1, 0, [1, 2]))


class OtherTables(unittest.TestCase):
    def test_inputs_and_read_registers_need_not_be_there(self):
        start = begin(coils=1, kept=1)
        for row in (request(5, 0, 0), request(6, 0, 0), request(22, 0, 0, 0), coils_row(0, 1, [1]), kept_row(0, [1])):
            self.assertEqual(last(start, pdu(row))[1], row[0])
        self.assertEqual(last(start, pdu(write_and_read(0, 1, 0, [1])))[1], 23)

    def test_inputs_and_read_registers_stay(self):
        start = begin(17, 1, 1, 1, 1)
        sets = [put(INPUTS, 0, 1), put(READ_ONLY, 0, 9)]
        rows = (request(5, 0, 0), request(6, 0, 5), request(22, 0, 0, 6), coils_row(0, 1, [0]), kept_row(0, [7]))
        writes = [pdu(row) for row in rows]
        self.assertEqual(run(start, *sets, *writes, get(INPUTS, 0), get(READ_ONLY, 0))[-2:], [[1], [9]])


if __name__ == "__main__":
    unittest.main()
