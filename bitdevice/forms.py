"""Whether a request may be carried out, and if not, for which reason."""

from bitdevice.device import COILS, INPUTS, KEPT, READ_ONLY
from bitdevice.packing import bytes_for_bits, number_at

NO_REASON = 0
NO_SUCH_FUNCTION = 1
NO_SUCH_PLACE = 2
WRONG_FORM = 3

COIL_ON = 0xFF00

MOST_BITS_READ = 2000
MOST_NUMBERS_READ = 125
MOST_COILS_WRITTEN = 1968
MOST_KEPT_WRITTEN = 123
# Fewer than by 16: the request has places to read as well.
MOST_KEPT_WRITTEN_AND_READ = 121

ECHO = 0
CLEAR_COUNTS = 10
FIRST_COUNT = 11
LAST_COUNT = 15


def is_read_of_bits(request):
    return len(request) == 5 and 1 <= number_at(request, 3) <= MOST_BITS_READ


def is_read_of_numbers(request):
    return len(request) == 5 and 1 <= number_at(request, 3) <= MOST_NUMBERS_READ


def is_write_of_coil(request):
    return len(request) == 5 and number_at(request, 3) in (0, COIL_ON)


def is_write_of_kept(request):
    return len(request) == 5


def is_mask_of_kept(request):
    return len(request) == 7


def is_alone(request):
    return len(request) == 1


def ends_with_row(request, k, size):
    return request[k] == size and len(request) == k + 1 + size


def is_write_of_coils(request):
    if len(request) < 6:
        return False
    many = number_at(request, 3)
    return 1 <= many <= MOST_COILS_WRITTEN and ends_with_row(request, 5, bytes_for_bits(many))


def is_write_of_kept_row(request):
    if len(request) < 6:
        return False
    many = number_at(request, 3)
    return 1 <= many <= MOST_KEPT_WRITTEN and ends_with_row(request, 5, many * 2)


def is_write_and_read(request):
    if len(request) < 10:
        return False
    if not 1 <= number_at(request, 3) <= MOST_NUMBERS_READ:
        return False
    written = number_at(request, 7)
    if not 1 <= written <= MOST_KEPT_WRITTEN_AND_READ:
        return False
    return ends_with_row(request, 9, written * 2)


def is_known_check(check):
    return check in (ECHO, CLEAR_COUNTS) or FIRST_COUNT <= check <= LAST_COUNT


def is_check(request):
    if len(request) != 5:
        return False
    return number_at(request, 1) == ECHO or number_at(request, 3) == 0


FORMS = {
    1: is_read_of_bits,
    2: is_read_of_bits,
    3: is_read_of_numbers,
    4: is_read_of_numbers,
    5: is_write_of_coil,
    6: is_write_of_kept,
    7: is_alone,
    8: is_check,
    11: is_alone,
    15: is_write_of_coils,
    16: is_write_of_kept_row,
    22: is_mask_of_kept,
    23: is_write_and_read,
}


def is_known(request):
    if request[0] == 8 and len(request) >= 3:
        # An unknown check is refused like an unknown function, whatever its length.
        return is_known_check(number_at(request, 1))
    return request[0] in FORMS


def has_right_form(request):
    """Asked of known functions alone."""
    return FORMS[request[0]](request)


def table_read_by(function):
    return {1: COILS, 2: INPUTS, 3: KEPT, 4: READ_ONLY}[function]


def spans_of(request):
    """The places that a request of right form reaches: table, first place, how many."""
    function = request[0]
    if 1 <= function <= 4:
        return [(table_read_by(function), number_at(request, 1), number_at(request, 3))]
    if function == 5:
        return [(COILS, number_at(request, 1), 1)]
    if function in (6, 22):
        return [(KEPT, number_at(request, 1), 1)]
    if function == 15:
        return [(COILS, number_at(request, 1), number_at(request, 3))]
    if function == 16:
        return [(KEPT, number_at(request, 1), number_at(request, 3))]
    if function == 23:
        return [
            (KEPT, number_at(request, 1), number_at(request, 3)),
            (KEPT, number_at(request, 5), number_at(request, 7)),
        ]
    return []


def reason_against(device, request):
    if not is_known(request):
        return NO_SUCH_FUNCTION
    if not has_right_form(request):
        return WRONG_FORM
    for span in spans_of(request):
        if not device.has_places(span[0], span[1], span[2]):
            return NO_SUCH_PLACE
    return NO_REASON
