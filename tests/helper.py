"""What the tests share: calls as they stand in a list, and their answers taken apart."""

from bitdevice.desk import answers

UNIT = 17
COILS, INPUTS, KEPT, READ_ONLY = range(4)


def begin(unit=UNIT, coils=0, inputs=0, kept=0, read=0):
    return [0, unit, coils, inputs, kept, read]


def put(table, at, value):
    return [1, table, at, value]


def get(table, at):
    return [2, table, at]


def pdu(row):
    return [3, len(row)] + list(row)


def rtu(row):
    return [4, len(row)] + list(row)


def line(text):
    """A call of ascii, whose frame is written as a text."""
    return [5, len(text)] + [ord(sign) for sign in text]


def tcp(row):
    return [6, len(row)] + list(row)


def counts():
    return [7]


def crc(row):
    return [8, len(row)] + list(row)


def lrc(row):
    return [9, len(row)] + list(row)


def ask(function, at, count, values=()):
    return [10, function, at, count, len(values)] + list(values)


def read(row, answer):
    return [11, len(row)] + list(row) + [len(answer)] + list(answer)


def two(number):
    return [number // 256, number % 256]


def request(function, *numbers):
    """A function's byte and numbers of two bytes behind it."""
    row = [function]
    for number in numbers:
        row += two(number)
    return row


def crc_of(row):
    """The sum by its polynomial's remainder, bits mirrored: another way than the program's."""
    remainder = 0xFFFF
    for part in row:
        remainder ^= int(f"{part:08b}"[::-1], 2) << 8
        for _ in range(8):
            remainder <<= 1
            if remainder > 0xFFFF:
                remainder ^= 0x18005
    return int(f"{remainder:016b}"[::-1], 2)


def rtu_frame(unit, row):
    body = [unit] + list(row)
    total = crc_of(body)
    return body + [total % 256, total // 256]


def ascii_text(unit, row):
    body = [unit] + list(row)
    body.append(-sum(body) % 256)
    return ":" + "".join(f"{part:02X}" for part in body) + "\r\n"


def tcp_frame(unit, row, handed_back=(0x12, 0x34)):
    return list(handed_back) + [0, 0] + two(len(row) + 1) + [unit] + list(row)


def take_apart(given):
    parts = []
    at = 0
    while at < len(given):
        end = at + 1 + given[at]
        if end > len(given):
            raise AssertionError("an answer is cut off")
        parts.append(given[at + 1:end])
        at = end
    return parts


def run(*calls):
    """Each call's own answer, behind one another."""
    flat = [number for call in calls for number in call]
    given = answers(flat)
    if not all(type(number) is int for number in given):
        raise AssertionError("an answer holds something else than whole numbers")
    parts = take_apart(given)
    if len(parts) != len(calls):
        raise AssertionError(f"{len(calls)} calls, {len(parts)} answers")
    return parts


def last(*calls):
    return run(*calls)[-1]


ASK_COUNTS = [pdu(request(8, which, 0)) for which in range(11, 16)] + [pdu([11])]


def counts_after(*calls):
    """The six counts, asked by requests that count nothing themselves."""
    parts = run(*calls, *ASK_COUNTS)[-6:]
    return [part[-2] * 256 + part[-1] for part in parts]


def answered(row):
    """An answer of bytes: how many, then they."""
    return [len(row)] + list(row)


def refused(function, reason):
    return [2, (function + 128) % 256, reason]
