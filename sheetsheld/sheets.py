"""Sheets: columns with names, and rows with a cell for each column.

A name is a tuple of bytes, a cell a tuple of whole numbers, a row a tuple of cells:
none of them can be changed, so sheets may share them.
"""

MOST_COLUMNS = 64
MOST_NAME_BYTES = 64
MOST_ROWS = 256
MOST_CELL_NUMBERS = 64

NOTHING = ()


class Sheet:
    def __init__(self, columns, rows):
        self.columns = columns
        self.rows = rows
        self.place_of = {}
        for place, name in enumerate(columns):
            self.place_of[name] = place

    def has_column(self, name):
        return name in self.place_of

    def cell_by_name(self, row, name):
        if name in self.place_of:
            return row[self.place_of[name]]
        return NOTHING

    def row_by_names(self, row, names):
        return tuple([self.cell_by_name(row, name) for name in names])


def are_columns(names):
    if not 1 <= len(names) <= MOST_COLUMNS:
        return False
    if len(set(names)) != len(names):
        return False
    return all([len(name) <= MOST_NAME_BYTES for name in names])


def is_cell(cell):
    return len(cell) <= MOST_CELL_NUMBERS


def is_row(row, width):
    return len(row) == width and all([is_cell(cell) for cell in row])


def is_sheet(columns, rows):
    if not are_columns(columns) or len(rows) > MOST_ROWS:
        return False
    return all([is_row(row, len(columns)) for row in rows])


def count_filled(row):
    return len([cell for cell in row if cell != NOTHING])
