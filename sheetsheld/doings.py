"""What one of the two has made of the sheet that both had."""

from sheetsheld.differing import difference
from sheetsheld.sheets import NOTHING
from sheetsheld.stepkinds import GONE, KEEP, PUT


class Doings:
    # kept_as has for each of o's rows what it is in x, None if it is gone;
    # put_ahead has for each of o's rows, and then for the end, the rows put ahead of it.
    def __init__(self, origin, sheet):
        self.origin = origin
        self.sheet = sheet
        self.kept_as = []
        self.put_ahead = [[]]
        self.go_through(difference(origin, sheet).steps)
        self.touched = {}
        for name in sheet.columns:
            if origin.has_column(name) and self.touches(name):
                self.touched[name] = True

    def go_through(self, steps):
        at = 0
        for kind, content in steps:
            if kind == PUT:
                self.put_ahead[-1].append(content)
            else:
                self.kept_as.append(self.sheet.rows[at] if kind == KEEP else None)
                self.put_ahead.append([])
            if kind != GONE:
                at += 1

    def touches(self, name):
        for before, after in zip(self.origin.rows, self.kept_as):
            if after is None:
                continue
            if self.sheet.cell_by_name(after, name) != self.origin.cell_by_name(before, name):
                return True
        for rows in self.put_ahead:
            if any([self.sheet.cell_by_name(row, name) != NOTHING for row in rows]):
                return True
        return False

    # Of a row that is kept: a column that x took away still shows what was there.
    def row_seen(self, at, names):
        cells = []
        for name in names:
            if self.origin.has_column(name) and not self.sheet.has_column(name):
                cells.append(self.origin.cell_by_name(self.origin.rows[at], name))
            else:
                cells.append(self.sheet.cell_by_name(self.kept_as[at], name))
        return tuple(cells)

    def has_changed(self, at):
        names = self.origin.columns + self.sheet.columns
        return self.row_seen(at, names) != self.origin.row_by_names(self.origin.rows[at], names)

    def rows_put(self, at, names):
        return [self.sheet.row_by_names(row, names) for row in self.put_ahead[at]]
