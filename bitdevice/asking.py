"""Requests made, and the answers to requests read."""

from bitdevice.device import OUT_OF_RANGE
from bitdevice.forms import COIL_ON, MOST_BITS_READ, MOST_COILS_WRITTEN, MOST_KEPT_WRITTEN, MOST_NUMBERS_READ
from bitdevice.forms import has_right_form
from bitdevice.packing import bits_of_bytes, bytes_for_bits, bytes_of_bits, bytes_of_numbers, counted, number_at
from bitdevice.packing import numbers_of_bytes

UNFIT = -5
REFUSAL_TOLD = -256

GREATEST_PLACE = 65535


def count_bounds(function):
    """The least and the greatest count that a function is asked with."""
    bounds = {
        1: (1, MOST_BITS_READ),
        2: (1, MOST_BITS_READ),
        3: (1, MOST_NUMBERS_READ),
        4: (1, MOST_NUMBERS_READ),
        5: (1, 1),
        6: (1, 1),
        15: (1, MOST_COILS_WRITTEN),
        16: (1, MOST_KEPT_WRITTEN),
        22: (2, 2),
    }
    # No count lies between 1 and 0: other functions are asked with none.
    return bounds.get(function, (1, 0))


def places_reached(function, count):
    # The two values of 22 are for one place.
    return 1 if function == 22 else count


def may_be_asked(function, at, count):
    bounds = count_bounds(function)
    if not bounds[0] <= count <= bounds[1]:
        return False
    return at >= 0 and at + places_reached(function, count) - 1 <= GREATEST_PLACE


def numbers_behind_place(function, count, values):
    if function == 5:
        return [COIL_ON if values[0] != 0 else 0]
    if function in (6, 22):
        return list(values)
    return [count]


def row_behind_numbers(function, values):
    if function == 15:
        return counted(bytes_of_bits([1 if value != 0 else 0 for value in values]))
    if function == 16:
        return counted(bytes_of_numbers(values))
    return []


def ask(function, at, count, values):
    """How many bytes the request has, then these; or a refusal."""
    if not may_be_asked(function, at, count):
        return [OUT_OF_RANGE]
    numbers = [at] + numbers_behind_place(function, count, values)
    return counted([function] + bytes_of_numbers(numbers) + row_behind_numbers(function, values))


def tells_refusal(request, answer):
    return request[0] < 128 and len(answer) == 2 and answer[0] == request[0] + 128


def read_values(request, answer):
    if not has_right_form(request):
        return [UNFIT]
    many = number_at(request, 3)
    of_bits = request[0] in (1, 2)
    size = bytes_for_bits(many) if of_bits else many * 2
    row = answer[2:]
    if answer[:2] != [request[0], size] or len(row) != size:
        return [UNFIT]
    return counted(bits_of_bytes(row, many) if of_bits else numbers_of_bytes(row))


def is_confirmed(request, answer):
    if request[0] in (5, 6, 22):
        return answer == request
    if request[0] in (15, 16):
        return len(request) >= 6 and answer == request[:5]
    return False


def read(request, answer):
    """How many values the answer tells, then these; or a refusal."""
    if not (1 <= len(request) <= 253 and 1 <= len(answer) <= 253):
        return [OUT_OF_RANGE]
    if tells_refusal(request, answer):
        return [REFUSAL_TOLD - answer[1]]
    if 1 <= request[0] <= 4:
        return read_values(request, answer)
    return [0] if is_confirmed(request, answer) else [UNFIT]
