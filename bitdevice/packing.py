"""Numbers and bits as they stand in bytes."""


def number_at(row, k):
    return row[k] * 256 + row[k + 1]


def bytes_of_numbers(numbers):
    row = []
    for number in numbers:
        row.append(number // 256)
        row.append(number % 256)
    return row


def numbers_of_bytes(row):
    return [number_at(row, k) for k in range(0, len(row), 2)]


def counted(row):
    return [len(row)] + row


def bytes_for_bits(many):
    return (many + 7) // 8


def bytes_of_bits(bits):
    row = [0] * bytes_for_bits(len(bits))
    for k, bit in enumerate(bits):
        row[k // 8] += bit << (k % 8)
    return row


def bits_of_bytes(row, many):
    return [(row[k // 8] >> (k % 8)) & 1 for k in range(many)]
