"""Reads what is handed in with a call, number by number."""

from sheetsheld.stepkinds import GONE, KEEP, PUT


class Reader:
    def __init__(self, numbers):
        self.numbers = numbers
        self.at = 0

    def read_number(self):
        number = self.numbers[self.at]
        self.at += 1
        return number

    # A cell and a name are written alike: how many numbers, then they.
    def read_numbers(self):
        length = self.read_number()
        begin = self.at
        self.at += length
        return tuple(self.numbers[begin:self.at])

    # Names stand one behind another just as the cells of a row do.
    def read_names(self):
        return self.read_row()

    def read_row(self):
        length = self.read_number()
        return tuple([self.read_numbers() for count in range(length)])

    def read_rows(self):
        length = self.read_number()
        return tuple([self.read_row() for count in range(length)])

    def read_steps(self):
        length = self.read_number()
        return tuple([self.read_step() for count in range(length)])

    def read_step(self):
        kind = self.read_number()
        if kind == KEEP:
            return (KEEP, self.read_settings())
        if kind == PUT:
            return (PUT, self.read_row())
        return (GONE, ())

    def read_settings(self):
        length = self.read_number()
        return tuple([self.read_setting() for count in range(length)])

    def read_setting(self):
        place = self.read_number()
        return (place, self.read_numbers())
