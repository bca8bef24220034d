"""Promise 5 once more: many small sheets joined, held against the document's words done plainly.

Here a row is a dict of what it has by its names; nothing of the program's own is used, but that
what differs is taken from diff (promise 3, which has tests of its own).
"""

import unittest

from tests.helper import Dice, answers, apart, diff, join, line, look, sheet, told_sheet, told_untold


# How each of o's rows came through, and what was put ahead of each and at the end.
def doings(o, x, kinds):
    kept, ahead, at = [], [[]], 0
    for kind in kinds:
        if kind == 2:
            ahead[-1].append(x[1][at])
        else:
            kept.append(x[1][at] if kind == 0 else None)
            ahead.append([])
        at += kind != 1
    return kept, ahead


def kinds_told(told, width):
    kinds, at = [], 2
    for step in range(told[1]):
        kinds.append(told[at])
        at += 1
        cells = width
        if kinds[-1] == 1:
            continue
        if kinds[-1] == 0:
            cells = told[at]
            at += 1
        for cell in range(cells):
            at += kinds[-1] == 0
            at += 1 + told[at]
    assert at == len(told)
    return kinds


def as_dicts(drawn):
    return drawn[0], [dict(zip(drawn[0], row)) for row in drawn[1]]


def touches(o, x, done, name):
    changed = [after for before, after in zip(o[1], done[0]) if after is not None and after[name] != before[name]]
    given = [row for rows in done[1] for row in rows if row[name] is not None]
    return bool(changed or given)


def joined_names(o, a, b, done_a, done_b):
    def stays(name):
        if name not in o[0] or (name in a[0] and name in b[0]):
            return True
        return (name in a[0] and touches(o, a, done_a, name)) or (name in b[0] and touches(o, b, done_b, name))

    first, other = (b, a) if a[0] == o[0] else (a, b)
    names = list(filter(stays, first[0]))
    before = None
    for name in other[0]:
        if stays(name) and name not in names:
            names = [name] + names if before not in names else [
                each for old in names for each in ([old, name] if old == before else [old])]
        before = name
    return names


def joined_by_the_words(o, a, b, kinds_a, kinds_b):
    o, a, b = as_dicts(o), as_dicts(a), as_dicts(b)
    done_a, done_b = doings(o, a, kinds_a), doings(o, b, kinds_b)
    names = joined_names(o, a, b, done_a, done_b)
    if not names:
        return None
    rows = []
    untold = [(3, place, who) for place, name in enumerate(names) for who, x in ((1, a), (2, b))
              if name in o[0] and name not in x[0]]

    def seen(x, row, before, name):
        return before[name] if name in o[0] and name not in x[0] else row.get(name)

    for at in range(len(o[1]) + 1):
        given_a = [[row.get(name) for name in names] for row in done_a[1][at]]
        given_b = [[row.get(name) for name in names] for row in done_b[1][at]]
        rows += given_a if given_a == given_b else given_a + given_b
        if at == len(o[1]):
            break
        before, row_a, row_b = o[1][at], done_a[0][at], done_b[0][at]
        if row_a is None and row_b is None:
            continue
        if row_a is None or row_b is None:
            who, x, row = (1, b, row_b) if row_a is None else (2, a, row_a)
            if any(seen(x, row, before, name) != before.get(name) for name in set(o[0]) | set(x[0])):
                untold.append((2, len(rows), who))
                rows.append([seen(x, row, before, name) for name in names])
            continue
        joined = []
        for place, name in enumerate(names):
            was, by_a, by_b = before.get(name), seen(a, row_a, before, name), seen(b, row_b, before, name)
            if by_a != by_b and was not in (by_a, by_b):
                untold.append((1, len(rows), place))
            joined.append(by_b if by_a == was else by_a)
        rows.append(joined)
    return untold, names, rows


class Drawing:
    def __init__(self, seed):
        self.dice = Dice(seed)

    def value(self):
        return self.dice.among((None, None, 1, 2, 3, 4))

    def names(self, among, most):
        left = list(among)
        return [left.pop(self.dice.below(len(left))) for count in range(1 + self.dice.below(most))]

    def origin(self):
        names = self.names("ABCD", 4)
        return names, [[self.value() for name in names] for row in range(self.dice.below(5))]

    # Some cells, rows and columns of o's are another's, are left out or come anew.
    def changed(self, o):
        names = list(o[0])
        rows = [dict(zip(names, row)) for row in o[1]]
        if self.dice.below(3) == 0:
            names.insert(self.dice.below(len(names) + 1), self.dice.among("NM"))
        if self.dice.below(3) == 0 and len(names) > 1:
            names.pop(self.dice.below(len(names)))
        if self.dice.below(4) == 0:
            names.reverse()
        made = []
        for row in rows + [None]:
            if self.dice.below(5) == 0:
                made.append([self.value() for name in names])
            if row is not None and self.dice.below(4):
                made.append([row.get(name) if self.dice.below(4) else self.value() for name in names])
        return names, made


class JoinByTheWordsTest(unittest.TestCase):
    def test_many(self):
        drawing = Drawing(5)
        seen_kinds = {1: 0, 2: 0, 3: 0, "none": 0, "refused": 0}
        for count in range(3000):
            o = drawing.origin()
            a = drawing.changed(o)
            b = drawing.changed(o)
            calls = line(sheet(0, *o), sheet(1, *a), sheet(2, *b), diff(0, 1), diff(0, 2), join(0, 1, 2, 3), look(3))
            told = apart(answers(calls))
            expected = joined_by_the_words(o, a, b, kinds_told(told[3], len(a[0])), kinds_told(told[4], len(b[0])))
            if expected is None:
                self.assertEqual(told[5:], [[-5], [-2]])
                seen_kinds["refused"] += 1
                continue
            untold, names, rows = expected
            self.assertEqual(told[5:], [told_untold(*untold), told_sheet(names, rows)], (o, a, b))
            for kind in {triple[0] for triple in untold} or {"none"}:
                seen_kinds[kind] += 1
        for kind in (1, 2, 3, "none"):
            self.assertGreater(seen_kinds[kind], 50, seen_kinds)
        self.assertGreater(seen_kinds["refused"], 0, seen_kinds)


if __name__ == "__main__":
    unittest.main()
