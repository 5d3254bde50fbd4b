"""The sums that end a frame."""


def crc(row):
    total = 0xFFFF
    for part in row:
        total = total ^ part
        for turn in range(8):
            lost = total & 1
            total = total >> 1
            if lost == 1:
                total = total ^ 0xA001
    return total


def lrc(row):
    return (256 - sum(row) % 256) % 256
