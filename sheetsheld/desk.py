"""The desk: four places for sheets, and the calls about them."""

from sheetsheld.differing import difference
from sheetsheld.joining import joined_sheet
from sheetsheld.patching import patched
from sheetsheld.reading import Reader
from sheetsheld.refusals import NoSheetThere, NoSuchPlace, NotFitting, NotJoinable
from sheetsheld.sheets import Sheet, is_sheet
from sheetsheld.writing import write_sheet, write_steps

PLACES = 4

NEW = 0
SHEET = 1
DIFF = 2
PATCH = 3
JOIN = 4


class Desk:
    def __init__(self):
        self.places = [None] * PLACES

    def answer(self, reader):
        try:
            return self.answer_call(reader)
        except NoSuchPlace:
            return [-1]
        except NoSheetThere:
            return [-2]
        except NotFitting:
            return [-3]
        except NotJoinable:
            return [-5]

    def answer_call(self, reader):
        call = reader.read_number()
        if call == NEW:
            return self.answer_new()
        if call == SHEET:
            return self.answer_sheet(reader)
        if call == DIFF:
            return self.answer_diff(reader)
        if call == PATCH:
            return self.answer_patch(reader)
        if call == JOIN:
            return self.answer_join(reader)
        return self.answer_look(reader)

    def answer_new(self):
        self.places = [None] * PLACES
        return [0]

    def answer_sheet(self, reader):
        place = read_place(reader)
        columns = reader.read_names()
        rows = reader.read_rows()
        if not is_sheet(columns, rows):
            raise NotFitting()
        self.places[place] = Sheet(columns, rows)
        return [0]

    def answer_diff(self, reader):
        one = read_place(reader)
        other = read_place(reader)
        found = difference(self.sheet_at(one), self.sheet_at(other))
        return [found.cost] + write_steps(found.steps)

    def answer_patch(self, reader):
        place = read_place(reader)
        to = read_place(reader)
        sheet = self.sheet_at(place)
        columns = reader.read_names()
        made = patched(sheet, columns, reader.read_steps())
        self.places[to] = made
        return [len(made.rows)]

    # All places are read ahead of the sheets: that a place isn't one is told first.
    def answer_join(self, reader):
        origin = read_place(reader)
        a = read_place(reader)
        b = read_place(reader)
        to = read_place(reader)
        joined = joined_sheet(self.sheet_at(origin), self.sheet_at(a), self.sheet_at(b))
        self.places[to] = joined.sheet
        numbers = [len(joined.untold)]
        for untold in joined.untold:
            numbers.extend(untold)
        return numbers

    def answer_look(self, reader):
        return [0] + write_sheet(self.sheet_at(read_place(reader)))

    def sheet_at(self, place):
        sheet = self.places[place]
        if sheet is None:
            raise NoSheetThere()
        return sheet


def read_place(reader):
    place = reader.read_number()
    if not 0 <= place < PLACES:
        raise NoSuchPlace()
    return place


# In the list a call is a 0, how many numbers it has, then these.
def answers(calls):
    desk = Desk()
    numbers = []
    at = 0
    while at < len(calls):
        begin = at + 2
        at = begin + calls[at + 1]
        answer = desk.answer(Reader(calls[begin:at]))
        numbers.append(len(answer))
        numbers.extend(answer)
    return numbers
