import inspect
import unittest

from bitdevice import desk
from bitdevice.desk import answers
from tests.helper import (
    KEPT, answered, ascii_text, ask, begin, counts, crc, crc_of, get, line, lrc, pdu, put, read, request, rtu,
    rtu_frame, take_apart, tcp, tcp_frame, two,
)

EVERY_CALL = [
    begin(17, 20, 20, 20, 20), put(KEPT, 0, 5), get(KEPT, 0), get(KEPT, 20), pdu(request(3, 0, 1)), pdu([]), pdu([99]),
    pdu(request(6, 1, 7)), pdu(request(8, 0, 9)), pdu(request(15, 0, 9) + [2, 255, 255]), pdu([7]),
    rtu(rtu_frame(17, request(6, 2, 8))), rtu([]), line(ascii_text(17, [11])), line(""), begin(0), pdu([11]),
    tcp(tcp_frame(255, request(6, 3, 9))), tcp([]), counts(), crc([]), crc([1]), lrc([]), lrc([1, 2]), ask(1, 2, 3),
    ask(15, 4, 2, [7, 0]), ask(22, 5, 1, [0]), read([3], [131, 2]), read(request(3, 0, 1), [3, 2, 1, 0]),
    read([7], [7]), read([6], [6]), read([], [3]), counts(),
]


def flat(calls):
    return [number for call in calls for number in call]


def round_of_calls(k, rounds):
    """Calls with their answers, 19 a round: what each brings about is told by the round's number alone."""
    value = 1000 + k * 97
    held = request(0, value, value, value + 1, value + 2, value + 3)[1:]
    row = request(6, 1, value)
    text = ascii_text(17, request(6, 2, value + 1))
    frame = rtu_frame(17, request(22, 3, 0, value + 2))
    return [
        (put(KEPT, 0, value), [0]),
        (get(KEPT, 0), [value]),
        (pdu(row), answered(row)),
        (pdu([99]), [2, 227, 1]),
        (line(text), answered([ord(sign) for sign in text])),
        (rtu(frame), answered(frame)),
        (rtu(rtu_frame(0, request(16, 4, 1) + [2] + two(value + 3))), [0]),
        (rtu(frame[:-1]), [0]),
        (tcp(tcp_frame(0, request(3, 0, 5), two(k))), answered(tcp_frame(0, [3, 10] + held, two(k)))),
        (tcp(tcp_frame(18, row)), [0]),
        (begin(0, 5, 5, 5, 5), [-2]),
        (counts(), [0] + [each * (rounds + 1) for each in (5, 1, 1, 4, 1, 5)]),
        (crc([k, 1]), [crc_of([k, 1])]),
        (lrc([k, 1]), [255 - k]),
        (ask(16, k, 2, [value, k]), answered(request(16, k, 2) + [4] + two(value) + two(k))),
        (ask(6, k, 2, [value, k]), [-2]),
        (read(request(4, k, 2), [4, 4] + two(value) + two(k)), [2, value, k]),
        (read([k], [k + 128, k]), [-256 - k]),
        (pdu([]), [-2]),
    ]


def long_line():
    """400 calls and their answers: two devices behind one another, ten and eleven rounds."""
    pairs = []
    for rounds in (10, 11):
        pairs.append((begin(17, 9, 9, 5, 9), [0]))
        for k in range(rounds):
            pairs.extend(round_of_calls(k + rounds, k))
    pairs = pairs[:399] + [(get(KEPT, 4), [1000 + 21 * 97 + 3])]
    return [pair[0] for pair in pairs], [pair[1] for pair in pairs]


class Answers(unittest.TestCase):
    def test_how_calls_stand_in_the_list(self):
        self.assertEqual(answers([0, 17, 1, 2, 3, 4]), [1, 0])
        self.assertEqual(answers([0, 17, 1, 2, 3, 4, 1, 2, 2, 9, 2, 2, 2]), [1, 0, 1, 0, 1, 9])
        self.assertEqual(answers([0, 17, 1, 2, 3, 4, 3, 1, 7, 2, 3, 4]), [1, 0, 3, 2, 7, 0, 1, -2])
        self.assertEqual(answers([0, 17, 1, 2, 3, 4, 3, 0, 4, 0, 5, 0, 5, 1, 58]), [1, 0, 1, -2, 1, 0, 1, 0, 1, 0])

    def test_how_the_other_calls_stand_in_the_list(self):
        start = [0, 17, 0, 0, 0, 0]
        for call, given in (
            ([6, 0], [1, 0]), ([6, 8, 1, 2, 0, 0, 0, 2, 17, 7], [10, 9, 1, 2, 0, 0, 0, 3, 17, 7, 0]),
            ([7], [7, 0, 0, 0, 0, 0, 0, 0]), ([8, 0], [1, 65535]), ([8, 2, 2, 7], [1, 0x1241]), ([9, 0], [1, 0]),
            ([9, 3, 1, 2, 3], [1, 250]), ([10, 3, 1, 2, 0], [6, 5, 3, 0, 1, 0, 2]),
            ([10, 6, 1, 1, 1, 258], [6, 5, 6, 0, 1, 1, 2]), ([10, 5, 0, 3, 3, 1, 1, 1], [1, -2]),
            ([10, 7, 0, 9, 0], [1, -2]), ([11, 0, 0], [1, -2]), ([11, 1, 6, 1, 6], [1, 0]),
            ([11, 1, 6, 2, 134, 4], [1, -260]), ([11, 1, 6, 1, 5], [1, -5]),
            ([11, 5, 1, 0, 0, 0, 3, 3, 1, 1, 6], [4, 3, 0, 1, 1]),
        ):
            # A call behind it is found only if this one is taken off as a whole.
            self.assertEqual(answers(start + call + [9, 1, 200]), [1, 0] + given + [1, 56])

    def test_what_is_given_back(self):
        given = answers(flat(EVERY_CALL))
        frame = rtu_frame(17, request(6, 2, 8))
        text = [ord(sign) for sign in ascii_text(17, [11, 0, 0, 0, 5])]
        self.assertEqual(given, flat([
            [1, 0], [1, 0], [1, 5], [1, -2], [5, 4, 3, 2, 0, 5], [1, -2], [3, 2, 227, 1],
            [6, 5, 6, 0, 1, 0, 7], [6, 5, 8, 0, 0, 0, 9], [6, 5, 15, 0, 0, 0, 9], [3, 2, 7, 255],
            [9, 8] + frame, [1, 0], [len(text) + 1, len(text)] + text, [1, 0], [1, -2], [6, 5, 11, 0, 0, 0, 5],
            [13, 12] + tcp_frame(255, request(6, 3, 9)), [1, 0], [7, 0, 3, 3, 1, 3, 0, 6], [1, 65535], [1, 0x807E],
            [1, 0], [1, 253], [6, 5, 1, 0, 2, 0, 3], [8, 7, 15, 0, 4, 0, 2, 1, 1], [1, -2], [1, -258], [2, 1, 256],
            [1, -5], [1, 0], [1, -2], [7, 0, 3, 3, 1, 3, 0, 6],
        ]))
        self.assertIs(type(given), list)
        self.assertTrue(all(type(number) is int for number in given))

    def test_what_is_handed_in_stays(self):
        calls = flat(EVERY_CALL)
        before = list(calls)
        answers(calls)
        self.assertEqual(calls, before)

    def test_what_is_handed_in_is_never_changed(self):
        class Watched(list):
            def refuse(self, *rest):
                raise AssertionError("the list is changed")

            append = extend = insert = pop = remove = clear = sort = reverse = refuse
            __setitem__ = __delitem__ = __iadd__ = __imul__ = refuse

        calls = flat(EVERY_CALL)
        self.assertEqual(answers(Watched(calls)), answers(calls))

    def test_a_second_time_answers_as_the_first(self):
        calls = flat(EVERY_CALL)
        first = answers(calls)
        answers(flat([begin(9, 20, 20, 20, 20), put(KEPT, 0, 77), pdu([99]), pdu([7])]))
        self.assertEqual(answers(calls), first)

    def test_what_is_given_back_is_the_callers_own(self):
        calls = flat(EVERY_CALL)
        first = answers(calls)
        kept = list(first)
        first.clear()
        self.assertEqual(answers(calls), kept)

    def test_400_calls(self):
        calls = begin(kept=1) + flat([pdu(request(3, 0, 1))] * 399)
        self.assertEqual(answers(calls), [1, 0] + [5, 4, 3, 2, 0, 0] * 399)

    def test_400_calls_of_all_kinds(self):
        calls, expected = long_line()
        self.assertEqual(len(calls), 400)
        self.assertEqual({call[0] for call in calls}, set(range(12)))
        given = take_apart(answers(flat(calls)))
        for k, part in enumerate(given):
            self.assertEqual(part, expected[k], (k, calls[k]))
        self.assertEqual(len(given), 400)
        self.assertEqual(take_apart(answers(flat(calls))), given)

    def test_the_longest_list(self):
        start = begin(17, 65536, 65536, 65536, 65536)
        row = [k % 256 for k in range(29000)]
        rest = 30000 - len(start) - len(crc(row)) - len(crc([])) - len(counts())
        calls = start + crc(row) + lrc([1] * rest) + counts()
        self.assertEqual(len(calls), 30000)
        self.assertEqual(answers(calls), [1, 0, 1, crc_of(row), 1, -rest % 256, 7] + [0] * 7)

    def test_the_function_itself(self):
        self.assertEqual(desk.answers.__module__, "bitdevice.desk")
        self.assertEqual(str(inspect.signature(desk.answers)), "(calls)")


if __name__ == "__main__":
    unittest.main()
