"""Frames that hold a request, and the frames that answer them."""

from bitdevice.carrying import carry_out
from bitdevice.device import FRAMES_FOR_ALL, FRAMES_FOR_IT, FRAMES_RIGHT, FRAMES_WRONG
from bitdevice.packing import bytes_of_numbers, number_at
from bitdevice.sums import crc, lrc

FOR_ALL = 0
CARRIED_OUT_FOR_ALL = (5, 6, 15, 16, 22)
# Over a net the address has found the device already, so these numbers mean it, too.
ANY_DEVICE = (0, 255)

COLON = 58
LINE_END = (13, 10)
NO_DIGIT = -1


def take_request(device, unit, request):
    """What a right frame brings about; without bytes where there's no answer."""
    device.tally(FRAMES_RIGHT)
    if unit == FOR_ALL:
        device.tally(FRAMES_FOR_IT)
        device.tally(FRAMES_FOR_ALL)
        if request[0] in CARRIED_OUT_FOR_ALL:
            carry_out(device, request)
        return []
    if unit != device.unit:
        return []
    device.tally(FRAMES_FOR_IT)
    return carry_out(device, request)


def crc_bytes(row):
    return list(reversed(bytes_of_numbers([crc(row)])))


def rtu_frame(row):
    return row + crc_bytes(row)


def is_rtu_frame(frame):
    return len(frame) >= 4 and frame[-2:] == crc_bytes(frame[:-2])


def answer_rtu(device, frame):
    if not is_rtu_frame(frame):
        device.tally(FRAMES_WRONG)
        return []
    answer = take_request(device, frame[0], frame[1:-2])
    if answer == []:
        return []
    return rtu_frame([frame[0]] + answer)


def digit_value(sign):
    if 48 <= sign <= 57:
        return sign - 48
    if 65 <= sign <= 70:
        return sign - 55
    return NO_DIGIT


def digit_sign(value):
    return value + 48 if value < 10 else value + 55


def ascii_frame(row):
    signs = [COLON]
    for part in row + [lrc(row)]:
        signs.append(digit_sign(part // 16))
        signs.append(digit_sign(part % 16))
    return signs + list(LINE_END)


def bytes_of_digits(signs):
    """The bytes that the signs stand for; none where they aren't pairs of digits."""
    digits = [digit_value(sign) for sign in signs]
    if len(digits) % 2 != 0 or NO_DIGIT in digits:
        return []
    return [digits[k] * 16 + digits[k + 1] for k in range(0, len(digits), 2)]


def bytes_of_line(signs):
    """What stands between the colon and the line's end; none where one is missing."""
    if signs[:1] != [COLON] or signs[-2:] != list(LINE_END):
        return []
    return bytes_of_digits(signs[1:-2])


def answer_ascii(device, signs):
    row = bytes_of_line(signs)
    if len(row) < 3 or row[-1] != lrc(row[:-1]):
        device.tally(FRAMES_WRONG)
        return []
    answer = take_request(device, row[0], row[1:-1])
    if answer == []:
        return []
    return ascii_frame([row[0]] + answer)


def is_tcp_frame(frame):
    return len(frame) >= 8 and frame[2:4] == [0, 0] and number_at(frame, 4) == len(frame) - 6


def answer_tcp(device, frame):
    if not is_tcp_frame(frame):
        device.tally(FRAMES_WRONG)
        return []
    device.tally(FRAMES_RIGHT)
    unit = frame[6]
    if unit != device.unit and unit not in ANY_DEVICE:
        return []
    device.tally(FRAMES_FOR_IT)
    body = [unit] + carry_out(device, frame[7:])
    return frame[:4] + bytes_of_numbers([len(body)]) + body
