import inspect
import unittest

from bitdevice import desk
from bitdevice.desk import answers
from tests.helper import KEPT, ascii_text, begin, get, line, pdu, put, request, rtu, rtu_frame

EVERY_CALL = [
    begin(17, 20, 20, 20, 20), put(KEPT, 0, 5), get(KEPT, 0), get(KEPT, 20), pdu(request(3, 0, 1)), pdu([]), pdu([99]),
    pdu(request(6, 1, 7)), pdu(request(8, 0, 9)), pdu(request(15, 0, 9) + [2, 255, 255]), pdu([7]),
    rtu(rtu_frame(17, request(6, 2, 8))), rtu([]), line(ascii_text(17, [11])), line(""), begin(0), pdu([11]),
]


def flat(calls):
    return [number for call in calls for number in call]


class Answers(unittest.TestCase):
    def test_how_calls_stand_in_the_list(self):
        self.assertEqual(answers([0, 17, 1, 2, 3, 4]), [1, 0])
        self.assertEqual(answers([0, 17, 1, 2, 3, 4, 1, 2, 2, 9, 2, 2, 2]), [1, 0, 1, 0, 1, 9])
        self.assertEqual(answers([0, 17, 1, 2, 3, 4, 3, 1, 7, 2, 3, 4]), [1, 0, 3, 2, 7, 0, 1, -2])
        self.assertEqual(answers([0, 17, 1, 2, 3, 4, 3, 0, 4, 0, 5, 0, 5, 1, 58]), [1, 0, 1, -2, 1, 0, 1, 0, 1, 0])

    def test_what_is_given_back(self):
        given = answers(flat(EVERY_CALL))
        frame = rtu_frame(17, request(6, 2, 8))
        text = [ord(sign) for sign in ascii_text(17, [11, 0, 0, 0, 5])]
        self.assertEqual(given, flat([
            [1, 0], [1, 0], [1, 5], [1, -2], [5, 4, 3, 2, 0, 5], [1, -2], [3, 2, 227, 1],
            [6, 5, 6, 0, 1, 0, 7], [6, 5, 8, 0, 0, 0, 9], [6, 5, 15, 0, 0, 0, 9], [3, 2, 7, 255],
            [9, 8] + frame, [1, 0], [len(text) + 1, len(text)] + text, [1, 0], [1, -2], [6, 5, 11, 0, 0, 0, 5],
        ]))
        self.assertIs(type(given), list)
        self.assertTrue(all(type(number) is int for number in given))

    def test_what_is_handed_in_stays(self):
        calls = flat(EVERY_CALL)
        before = list(calls)
        answers(calls)
        self.assertEqual(calls, before)

    def test_what_is_handed_in_is_never_changed(self):
        class Watched(list):
            def refuse(self, *rest):
                raise AssertionError("the list is changed")

            append = extend = insert = pop = remove = clear = sort = reverse = refuse
            __setitem__ = __delitem__ = __iadd__ = __imul__ = refuse

        calls = flat(EVERY_CALL)
        self.assertEqual(answers(Watched(calls)), answers(calls))

    def test_a_second_time_answers_as_the_first(self):
        calls = flat(EVERY_CALL)
        first = answers(calls)
        answers(flat([begin(9, 20, 20, 20, 20), put(KEPT, 0, 77), pdu([99]), pdu([7])]))
        self.assertEqual(answers(calls), first)

    def test_what_is_given_back_is_the_callers_own(self):
        calls = flat(EVERY_CALL)
        first = answers(calls)
        kept = list(first)
        first.clear()
        self.assertEqual(answers(calls), kept)

    def test_400_calls(self):
        calls = begin(kept=1) + flat([pdu(request(3, 0, 1))] * 399)
        self.assertEqual(answers(calls), [1, 0] + [5, 4, 3, 2, 0, 0] * 399)

    def test_the_function_itself(self):
        self.assertEqual(desk.answers.__module__, "bitdevice.desk")
        self.assertEqual(str(inspect.signature(desk.answers)), "(calls)")


if __name__ == "__main__":
    unittest.main()
