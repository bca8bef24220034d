"""What comes of two sheets together that were made of one, and what can't be told."""

from sheetsheld.doings import Doings
from sheetsheld.refusals import NotJoinable
from sheetsheld.sheets import MOST_COLUMNS, MOST_ROWS, Sheet

CELL_UNTOLD = 1
ROW_UNTOLD = 2
COLUMN_UNTOLD = 3

TAKER_A = 1
TAKER_B = 2


class Joining:
    def __init__(self, origin, a, b):
        self.origin = origin
        self.by_a = Doings(origin, a)
        self.by_b = Doings(origin, b)
        self.columns = joined_columns(origin, self.by_a, self.by_b)
        self.rows = []
        self.untold = []

    def join_all(self):
        self.tell_columns()
        for at in range(len(self.origin.rows)):
            self.join_rows_put(at)
            self.join_row(at)
        self.join_rows_put(len(self.origin.rows))

    def tell_columns(self):
        for place, name in enumerate(self.columns):
            if not self.origin.has_column(name):
                continue
            if not self.by_a.sheet.has_column(name):
                self.untold.append((COLUMN_UNTOLD, place, TAKER_A))
            if not self.by_b.sheet.has_column(name):
                self.untold.append((COLUMN_UNTOLD, place, TAKER_B))

    def join_rows_put(self, at):
        by_a = self.by_a.rows_put(at, self.columns)
        by_b = self.by_b.rows_put(at, self.columns)
        self.rows.extend(by_a)
        if by_a != by_b:
            self.rows.extend(by_b)

    def join_row(self, at):
        gone_in_a = self.by_a.kept_as[at] is None
        gone_in_b = self.by_b.kept_as[at] is None
        if gone_in_a and gone_in_b:
            return
        if gone_in_a:
            self.join_row_gone_in_one(at, self.by_b, TAKER_A)
        elif gone_in_b:
            self.join_row_gone_in_one(at, self.by_a, TAKER_B)
        else:
            self.join_row_kept(at)

    def join_row_gone_in_one(self, at, keeper, taker):
        if keeper.has_changed(at):
            self.untold.append((ROW_UNTOLD, len(self.rows), taker))
            self.rows.append(keeper.row_seen(at, self.columns))

    def join_row_kept(self, at):
        before = self.origin.row_by_names(self.origin.rows[at], self.columns)
        by_a = self.by_a.row_seen(at, self.columns)
        by_b = self.by_b.row_seen(at, self.columns)
        cells = []
        for place, cell in enumerate(before):
            cells.append(by_b[place] if by_a[place] == cell else by_a[place])
            if is_untold(cell, by_a[place], by_b[place]):
                self.untold.append((CELL_UNTOLD, len(self.rows), place))
        self.rows.append(tuple(cells))


def is_untold(before, by_a, by_b):
    return by_a != by_b and by_a != before and by_b != before


def joined_columns(origin, by_a, by_b):
    first = by_a
    other = by_b
    if by_a.sheet.columns == origin.columns:
        first = by_b
        other = by_a
    joined = [name for name in first.sheet.columns if stays(origin, by_a, by_b, name)]
    for place, name in enumerate(other.sheet.columns):
        if stays(origin, by_a, by_b, name) and name not in joined:
            joined.insert(place_behind_neighbour(joined, other.sheet.columns, place), name)
    return tuple(joined)


def stays(origin, by_a, by_b, name):
    if not origin.has_column(name):
        return True
    if by_a.sheet.has_column(name) and by_b.sheet.has_column(name):
        return True
    return name in by_a.touched or name in by_b.touched


def place_behind_neighbour(joined, columns, place):
    if place == 0 or columns[place - 1] not in joined:
        return 0
    return joined.index(columns[place - 1]) + 1


class Joined:
    def __init__(self, sheet, untold):
        self.sheet = sheet
        self.untold = untold


def joined_sheet(origin, a, b):
    work = Joining(origin, a, b)
    work.join_all()
    if not 1 <= len(work.columns) <= MOST_COLUMNS or len(work.rows) > MOST_ROWS:
        raise NotJoinable()
    return Joined(Sheet(work.columns, tuple(work.rows)), work.untold)
