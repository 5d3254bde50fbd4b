"""Calls on one device, as they stand in a list, and what is answered to them."""

from bitdevice.asking import ask, read
from bitdevice.carrying import carry_out
from bitdevice.device import Device, OUT_OF_RANGE
from bitdevice.framings import answer_ascii, answer_rtu, answer_tcp
from bitdevice.packing import counted
from bitdevice.sums import crc, lrc

MOST_SUMMED = 65536


def call_begin(device, numbers, rows):
    return [device.begin(numbers[0], numbers[1:])]


def call_set(device, numbers, rows):
    return [device.set_value(numbers[0], numbers[1], numbers[2])]


def call_get(device, numbers, rows):
    return [device.get_value(numbers[0], numbers[1])]


def call_pdu(device, numbers, rows):
    if not 1 <= len(rows[0]) <= 253:
        return [OUT_OF_RANGE]
    return counted(carry_out(device, rows[0]))


def call_rtu(device, numbers, rows):
    if len(rows[0]) > 256:
        return [OUT_OF_RANGE]
    return counted(answer_rtu(device, rows[0]))


def call_ascii(device, numbers, rows):
    if len(rows[0]) > 513:
        return [OUT_OF_RANGE]
    return counted(answer_ascii(device, rows[0]))


def call_tcp(device, numbers, rows):
    if len(rows[0]) > 260:
        return [OUT_OF_RANGE]
    return counted(answer_tcp(device, rows[0]))


def call_counts(device, numbers, rows):
    return [0] + device.tallies


def call_crc(device, numbers, rows):
    if len(rows[0]) > MOST_SUMMED:
        return [OUT_OF_RANGE]
    return [crc(rows[0])]


def call_lrc(device, numbers, rows):
    if len(rows[0]) > MOST_SUMMED:
        return [OUT_OF_RANGE]
    return [lrc(rows[0])]


def call_ask(device, numbers, rows):
    return ask(numbers[0], numbers[1], numbers[2], rows[0])


def call_read(device, numbers, rows):
    return read(rows[0], rows[1])


# How many whole numbers and how many rows a call has, by the call's number.
SHAPES = {
    0: (5, 0),
    1: (3, 0),
    2: (2, 0),
    3: (0, 1),
    4: (0, 1),
    5: (0, 1),
    6: (0, 1),
    7: (0, 0),
    8: (0, 1),
    9: (0, 1),
    10: (3, 1),
    11: (0, 2),
}

CALLS = {
    0: call_begin,
    1: call_set,
    2: call_get,
    3: call_pdu,
    4: call_rtu,
    5: call_ascii,
    6: call_tcp,
    7: call_counts,
    8: call_crc,
    9: call_lrc,
    10: call_ask,
    11: call_read,
}


def rows_from(calls, at, many):
    """The rows that begin at a place of the list, each behind its length."""
    rows = []
    start = at
    while len(rows) < many:
        end = start + 1 + calls[start]
        rows.append(calls[start + 1:end])
        start = end
    return rows


def answers(calls):
    device = Device()
    given = []
    at = 0
    while at < len(calls):
        shape = SHAPES[calls[at]]
        behind = at + 1 + shape[0]
        rows = rows_from(calls, behind, shape[1])
        answer = CALLS[calls[at]](device, calls[at + 1:behind], rows)
        given.extend(counted(answer))
        at = behind + sum([len(row) + 1 for row in rows])
    return given
