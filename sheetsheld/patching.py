"""What the steps of a patch make of a sheet."""

from sheetsheld.refusals import NotFitting
from sheetsheld.sheets import MOST_ROWS, Sheet, are_columns, is_cell, is_row
from sheetsheld.stepkinds import KEEP, PUT


def patched(sheet, columns, steps):
    if not are_columns(columns):
        raise NotFitting()
    rows = []
    at = 0
    for kind, content in steps:
        if kind == PUT:
            rows.append(row_put(content, len(columns)))
            continue
        if at == len(sheet.rows):
            raise NotFitting()
        if kind == KEEP:
            rows.append(row_kept(sheet.row_by_names(sheet.rows[at], columns), content))
        at += 1
    if at < len(sheet.rows) or len(rows) > MOST_ROWS:
        raise NotFitting()
    return Sheet(columns, tuple(rows))


def row_put(row, width):
    if not is_row(row, width):
        raise NotFitting()
    return row


def row_kept(row, settings):
    cells = list(row)
    for place, cell in settings:
        if place >= len(cells) or not is_cell(cell):
            raise NotFitting()
        cells[place] = cell
    return tuple(cells)
