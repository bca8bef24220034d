"""What differs from a sheet to another: the steps that cost least."""

from sheetsheld.sheets import count_filled
from sheetsheld.stepkinds import GONE, KEEP, PUT


class Difference:
    def __init__(self, cost, steps):
        self.cost = cost
        self.steps = steps


def difference(one, other):
    # Seen by the columns wanted, a kept row can be held against a wanted one cell by cell.
    seen = [one.row_by_names(row, other.columns) for row in one.rows]
    keeps = [keep_costs(row, other.rows) for row in seen]
    gones = [1 + count_filled(row) for row in one.rows]
    puts = [1 + count_filled(row) for row in other.rows]
    costs = least_costs(keeps, gones, puts)
    kinds = first_kinds(costs, keeps, gones)
    return Difference(costs[0][0], steps_of_kinds(kinds, seen, other.rows))


def keep_costs(row, wanted_rows):
    return [len(settings_between(row, wanted)) for wanted in wanted_rows]


def settings_between(row, wanted):
    return [(place, cell) for place, cell in enumerate(wanted) if row[place] != cell]


# costs[i][j] is what it costs at the least to make the other's rows from j on of the
# one's rows from i on: told from the end, so that the first step can be chosen first.
def least_costs(keeps, gones, puts):
    behind = [0]
    for cost in reversed(puts):
        behind.append(behind[-1] + cost)
    behind.reverse()
    costs = [behind]
    for i in range(len(gones) - 1, -1, -1):
        costs.append(costs_of_row(keeps[i], gones[i], puts, costs[-1]))
    costs.reverse()
    return costs


def costs_of_row(keeps, gone, puts, behind):
    width = len(puts)
    costs = [0] * width + [gone + behind[width]]
    for j in range(width - 1, -1, -1):
        costs[j] = min(keeps[j] + behind[j + 1], gone + behind[j], puts[j] + costs[j + 1])
    return costs


def first_kinds(costs, keeps, gones):
    kinds = []
    height = len(costs) - 1
    width = len(costs[0]) - 1
    i = 0
    j = 0
    while i < height or j < width:
        if i < height and j < width and costs[i][j] == keeps[i][j] + costs[i + 1][j + 1]:
            kinds.append(KEEP)
            i += 1
            j += 1
        elif i < height and costs[i][j] == gones[i] + costs[i + 1][j]:
            kinds.append(GONE)
            i += 1
        else:
            kinds.append(PUT)
            j += 1
    return kinds


def steps_of_kinds(kinds, seen, wanted):
    steps = []
    i = 0
    j = 0
    for kind in kinds:
        if kind == KEEP:
            steps.append((KEEP, settings_between(seen[i], wanted[j])))
        elif kind == GONE:
            steps.append((GONE, ()))
        else:
            steps.append((PUT, wanted[j]))
        if kind != PUT:
            i += 1
        if kind != GONE:
            j += 1
    return steps
