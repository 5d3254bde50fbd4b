"""The device: its number, its four tables and its six counts."""

OUT_OF_RANGE = -2

COILS = 0
INPUTS = 1
KEPT = 2
READ_ONLY = 3

GREATEST_VALUES = (1, 1, 65535, 65535)
GREATEST_SIZE = 65536

FRAMES_RIGHT = 0
FRAMES_WRONG = 1
REFUSALS = 2
FRAMES_FOR_IT = 3
FRAMES_FOR_ALL = 4
WENT_WELL = 5


class Device:
    def __init__(self):
        self.unit = 0
        self.tables = [[], [], [], []]
        self.tallies = [0] * 6

    def begin(self, unit, sizes):
        if not 1 <= unit <= 247:
            return OUT_OF_RANGE
        for size in sizes:
            if not 0 <= size <= GREATEST_SIZE:
                return OUT_OF_RANGE
        self.unit = unit
        self.tables = [[0] * size for size in sizes]
        self.clear_tallies()
        return 0

    def has_places(self, table, place, many):
        if not 0 <= table < len(self.tables):
            return False
        return place >= 0 and place + many <= len(self.tables[table])

    def set_value(self, table, place, value):
        if not self.has_places(table, place, 1):
            return OUT_OF_RANGE
        if not 0 <= value <= GREATEST_VALUES[table]:
            return OUT_OF_RANGE
        self.tables[table][place] = value
        return 0

    def get_value(self, table, place):
        if not self.has_places(table, place, 1):
            return OUT_OF_RANGE
        return self.tables[table][place]

    def row_at(self, table, place, many):
        return self.tables[table][place:place + many]

    def put_row(self, table, place, fresh):
        for k, value in enumerate(fresh):
            self.tables[table][place + k] = value

    def tally(self, which):
        self.tallies[which] = (self.tallies[which] + 1) % 65536

    def clear_tallies(self):
        self.tallies = [0] * 6
