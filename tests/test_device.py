import unittest

from tests.helper import (
    COILS, INPUTS, KEPT, READ_ONLY, answered, begin, counts_after, get, last, line, pdu, put, request, rtu, rtu_frame,
    run,
)

LEAST = -2147483648
GREATEST = 2147483647
TABLES = (COILS, INPUTS, KEPT, READ_ONLY)


class Begin(unittest.TestCase):
    def test_units_within_range(self):
        for unit in (1, 2, 246, 247):
            self.assertEqual(run(begin(unit)), [[0]])

    def test_units_out_of_range(self):
        for unit in (0, 248, 255, -1, LEAST, GREATEST):
            self.assertEqual(run(begin(), begin(unit)), [[0], [-2]], unit)

    def test_sizes_within_range(self):
        for size in (0, 1, 65535, 65536):
            for which in range(4):
                sizes = [0] * 4
                sizes[which] = size
                self.assertEqual(run([0, 1] + sizes), [[0]])

    def test_sizes_out_of_range(self):
        for size in (-1, 65537, LEAST, GREATEST):
            for which in range(4):
                sizes = [1] * 4
                sizes[which] = size
                self.assertEqual(run(begin(), [0, 1] + sizes), [[0], [-2]])

    def test_each_table_has_its_own_size(self):
        start = [0, 1, 3, 4, 5, 6]
        for table, size in zip(TABLES, (3, 4, 5, 6)):
            self.assertEqual(run(start, get(table, size - 1), get(table, size))[1:], [[0], [-2]])

    def test_all_places_hold_0(self):
        asked = [get(table, at) for table in TABLES for at in range(20)]
        self.assertEqual(run(begin(1, 20, 20, 20, 20), *asked)[1:], [[0]] * 80)

    def test_a_later_begin_starts_anew(self):
        start = begin(17, 2, 2, 2, 2)
        sets = [put(table, 1, 1) for table in TABLES]
        gets = [get(table, 1) for table in TABLES]
        self.assertEqual(run(start, *sets, begin(18, 2, 2, 2, 2), *gets)[-4:], [[0]] * 4)

    def test_a_later_begin_clears_counts(self):
        busy = [pdu([99]), pdu([7]), rtu([]), rtu(rtu_frame(0, [7])), rtu(rtu_frame(17, [7]))]
        self.assertEqual(counts_after(begin(), *busy), [2, 1, 1, 2, 1, 2])
        self.assertEqual(counts_after(begin(), *busy, begin()), [0] * 6)

    def test_a_later_begin_changes_the_number(self):
        self.assertEqual(last(begin(17), begin(18), rtu(rtu_frame(17, [7]))), [0])
        self.assertEqual(last(begin(17), begin(18), rtu(rtu_frame(18, [7]))), answered(rtu_frame(18, [7, 0])))

    def test_a_refused_begin_changes_nothing(self):
        start = begin(17, 2, 3, 4, 5)
        sets = [put(table, 1, 1) for table in TABLES]
        gets = [get(table, at) for table in TABLES for at in range(6)]
        busy = [pdu([99]), pdu([7]), rtu([]), rtu(rtu_frame(0, [7]))]
        before = run(start, *sets, *busy, *gets)[-24:]
        for wrong in (begin(0), begin(248, 9, 9, 9, 9), begin(9, 9, 9, 9, 65537), begin(9, -1, 9, 9, 9)):
            self.assertEqual(run(start, *sets, *busy, wrong, *gets)[-24:], before)
            self.assertEqual(counts_after(start, *busy, wrong), [1, 1, 1, 1, 1, 1])
            self.assertEqual(last(start, wrong, rtu(rtu_frame(17, [7]))), answered(rtu_frame(17, [7, 0])))


class SetAndGet(unittest.TestCase):
    START = begin(17, 10, 10, 10, 10)

    def test_what_is_set_is_got(self):
        for table, value in ((COILS, 1), (INPUTS, 1), (KEPT, 65535), (READ_ONLY, 65535), (KEPT, 256), (READ_ONLY, 2)):
            for at in (0, 5, 9):
                self.assertEqual(run(self.START, put(table, at, value), get(table, at))[1:], [[0], [value]])

    def test_a_value_is_set_back_to_0(self):
        for table in TABLES:
            self.assertEqual(last(self.START, put(table, 3, 1), put(table, 3, 0), get(table, 3)), [0])

    def test_only_the_one_place_changes(self):
        for table in TABLES:
            gets = [get(other, at) for other in TABLES for at in range(10)]
            parts = run(self.START, put(table, 4, 1), *gets)[2:]
            self.assertEqual([k for k, part in enumerate(parts) if part != [0]], [table * 10 + 4])

    def test_values_out_of_range(self):
        for table, past in ((COILS, 2), (INPUTS, 2), (KEPT, 65536), (READ_ONLY, 65536)):
            for value in (past, -1, LEAST, GREATEST):
                parts = run(self.START, put(table, 1, 1), put(table, 1, value), get(table, 1))
                self.assertEqual(parts[2:], [[-2], [1]])

    def test_places_out_of_range(self):
        for table in TABLES:
            for at in (-1, -10, 10, LEAST, GREATEST):
                self.assertEqual(run(self.START, put(table, at, 0), get(table, at))[1:], [[-2], [-2]])

    def test_a_refused_set_changes_nothing(self):
        gets = [get(table, at) for table in TABLES for at in range(10)]
        sets = [put(table, at, 1) for table in TABLES for at in (-1, -10, 10)]
        self.assertEqual(run(self.START, *sets, *gets)[-40:], [[0]] * 40)
        self.assertEqual(counts_after(self.START, *sets, get(4, 0)), [0] * 6)

    def test_tables_out_of_range(self):
        for table in (-1, 4, LEAST, GREATEST):
            self.assertEqual(run(self.START, put(table, 0, 0), get(table, 0))[1:], [[-2], [-2]])

    def test_tables_without_places(self):
        for table in TABLES:
            self.assertEqual(run(begin(), put(table, 0, 0), get(table, 0))[1:], [[-2], [-2]])

    def test_greatest_tables(self):
        start = begin(17, 65536, 65536, 65536, 65536)
        for table in TABLES:
            parts = run(start, put(table, 65535, 1), get(table, 65535), get(table, 0), put(table, 65536, 1),
                        get(table, 65536))
            self.assertEqual(parts[1:], [[0], [1], [0], [-2], [-2]])


class HowManyBytes(unittest.TestCase):
    def test_pdu(self):
        self.assertEqual(last(begin(), pdu([])), [-2])
        self.assertEqual(last(begin(), pdu([7])), [2, 7, 0])
        self.assertEqual(last(begin(), pdu([7] * 253)), [2, 135, 3])
        self.assertEqual(last(begin(), pdu([7] * 254)), [-2])

    def test_rtu(self):
        self.assertEqual(last(begin(), rtu([])), [0])
        self.assertEqual(last(begin(), rtu(rtu_frame(17, [7] * 253))), answered(rtu_frame(17, [135, 3])))
        self.assertEqual(last(begin(), rtu(rtu_frame(17, [7] * 254))), [-2])

    def test_ascii(self):
        self.assertEqual(last(begin(), line("")), [0])
        self.assertEqual(last(begin(), line(":" * 513)), [0])
        self.assertEqual(last(begin(), line(":" * 514)), [-2])

    def test_refused_for_their_length_they_count_nothing(self):
        refused = [pdu([]), pdu([7] * 254), rtu([7] * 257), line(":" * 514)]
        self.assertEqual(counts_after(begin(), *refused), [0] * 6)
        self.assertEqual(counts_after(begin(kept=1), *refused, pdu(request(3, 0, 1))), [0, 0, 0, 0, 0, 1])


if __name__ == "__main__":
    unittest.main()
