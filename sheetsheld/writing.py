"""Writes sheets and steps as the numbers that are answered."""

from sheetsheld.stepkinds import KEEP, PUT


# A cell and a name are written alike: how many numbers, then they.
def write_all(cells):
    numbers = []
    for cell in cells:
        numbers.append(len(cell))
        numbers.extend(cell)
    return numbers


def write_sheet(sheet):
    numbers = [len(sheet.columns)] + write_all(sheet.columns)
    numbers.append(len(sheet.rows))
    for row in sheet.rows:
        numbers.extend(write_all(row))
    return numbers


def write_steps(steps):
    numbers = [len(steps)]
    for kind, content in steps:
        numbers.append(kind)
        if kind == KEEP:
            numbers.extend(write_settings(content))
        elif kind == PUT:
            numbers.extend(write_all(content))
    return numbers


def write_settings(settings):
    numbers = [len(settings)]
    for place, cell in settings:
        numbers.append(place)
        numbers.extend(write_all([cell]))
    return numbers
