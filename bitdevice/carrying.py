"""Requests carried out on a device."""

from bitdevice.device import COILS, KEPT, REFUSALS, WENT_WELL
from bitdevice.forms import CLEAR_COUNTS, COIL_ON, ECHO, FIRST_COUNT, NO_REASON, reason_against, table_read_by
from bitdevice.packing import bits_of_bytes, bytes_of_bits, bytes_of_numbers, counted, number_at, numbers_of_bytes

UNCOUNTED = (8, 11)


def read_bits(device, request):
    bits = device.row_at(table_read_by(request[0]), number_at(request, 1), number_at(request, 3))
    return [request[0]] + counted(bytes_of_bits(bits))


def answer_with_numbers(device, request, table):
    numbers = device.row_at(table, number_at(request, 1), number_at(request, 3))
    return [request[0]] + counted(bytes_of_numbers(numbers))


def read_numbers(device, request):
    return answer_with_numbers(device, request, table_read_by(request[0]))


def write_coil(device, request):
    bit = 1 if number_at(request, 3) == COIL_ON else 0
    device.put_row(COILS, number_at(request, 1), [bit])
    return list(request)


def write_kept(device, request):
    device.put_row(KEPT, number_at(request, 1), [number_at(request, 3)])
    return list(request)


def mask_kept(device, request):
    place = number_at(request, 1)
    stay = number_at(request, 3)
    fresh = number_at(request, 5)
    old = device.get_value(KEPT, place)
    device.put_row(KEPT, place, [(old & stay) | (fresh & ~stay)])
    return list(request)


def write_coils(device, request):
    bits = bits_of_bytes(request[6:], number_at(request, 3))
    device.put_row(COILS, number_at(request, 1), bits)
    return request[:5]


def write_kept_row(device, request):
    device.put_row(KEPT, number_at(request, 1), numbers_of_bytes(request[6:]))
    return request[:5]


def write_and_read(device, request):
    device.put_row(KEPT, number_at(request, 5), numbers_of_bytes(request[10:]))
    return answer_with_numbers(device, request, KEPT)


def read_status(device, request):
    # Not by bytes_of_bits: without a coil there would be no byte.
    coils = device.row_at(COILS, 0, 8)
    return [request[0], sum([bit << k for k, bit in enumerate(coils)])]


def read_went_well(device, request):
    return [request[0], 0, 0] + bytes_of_numbers([device.tallies[WENT_WELL]])


def check_device(device, request):
    check = number_at(request, 1)
    if check == ECHO:
        return list(request)
    if check == CLEAR_COUNTS:
        device.clear_tallies()
        return list(request)
    return request[:3] + bytes_of_numbers([device.tallies[check - FIRST_COUNT]])


CARRIERS = {
    1: read_bits,
    2: read_bits,
    3: read_numbers,
    4: read_numbers,
    5: write_coil,
    6: write_kept,
    7: read_status,
    8: check_device,
    11: read_went_well,
    15: write_coils,
    16: write_kept_row,
    22: mask_kept,
    23: write_and_read,
}


def carry_out(device, request):
    """The answer's bytes, be it a refusal or not."""
    reason = reason_against(device, request)
    if reason != NO_REASON:
        device.tally(REFUSALS)
        return [(request[0] + 128) % 256, reason]
    answer = CARRIERS[request[0]](device, request)
    if request[0] not in UNCOUNTED:
        device.tally(WENT_WELL)
    return answer
