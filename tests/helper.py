"""Writes calls as the lists that are handed in, and takes the answers apart.

In the tests a name is a text; a cell is None (nothing), one whole number, or a list of them.
"""

from sheetsheld.desk import answers


def cell(value):
    if value is None:
        return []
    return list(value) if isinstance(value, list) else [value]


def counted(numbers):
    return [len(numbers)] + list(numbers)


def written_names(names):
    numbers = [len(names)]
    for name in names:
        numbers += counted(name.encode("latin-1"))
    return numbers


def bare_row(row):
    numbers = []
    for value in row:
        numbers += counted(cell(value))
    return numbers


def written_row(row):
    return [len(row)] + bare_row(row)


# Steps

def keep(*settings):
    return ("keep", settings)


def gone():
    return ("gone", ())


def put(*row):
    return ("put", row)


def written_steps(steps, write_row):
    numbers = [len(steps)]
    for kind, content in steps:
        if kind == "keep":
            numbers += [0, len(content)]
            for place, value in content:
                numbers += [place] + counted(cell(value))
        elif kind == "gone":
            numbers += [1]
        else:
            numbers += [2] + write_row(content)
    return numbers


# Calls

def new():
    return [0]


def sheet(k, names, rows):
    numbers = [1, k] + written_names(names) + [len(rows)]
    for row in rows:
        numbers += written_row(row)
    return numbers


def diff(j, k):
    return [2, j, k]


def patch(k, to, names, steps):
    return [3, k, to] + written_names(names) + written_steps(steps, written_row)


def join(o, a, b, to):
    return [4, o, a, b, to]


def look(k):
    return [5, k]


# Answers

def line(*calls):
    numbers = []
    for call in calls:
        numbers += [0] + counted(call)
    return numbers


def apart(numbers):
    told = []
    at = 0
    while at < len(numbers):
        begin = at + 1
        at = begin + numbers[at]
        assert at <= len(numbers)
        told.append(numbers[begin:at])
    return told


def ask(*calls):
    return apart(answers(line(*calls)))


def told_sheet(names, rows):
    numbers = [0] + written_names(names) + [len(rows)]
    for row in rows:
        numbers += bare_row(row)
    return numbers


def told_steps(cost, *steps):
    return [cost] + written_steps(steps, bare_row)


def told_untold(*triples):
    numbers = [len(triples)]
    for triple in triples:
        numbers += triple
    return numbers


# Made-up numbers that are the same each time, on every Python.
class Dice:
    def __init__(self, seed):
        self.state = seed

    def below(self, limit):
        self.state = (self.state * 6364136223846793005 + 1442695040888963407) % 2**64
        return (self.state >> 33) % limit

    def among(self, values):
        return values[self.below(len(values))]
