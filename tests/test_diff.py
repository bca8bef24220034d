"""Promise 3: diff."""

import unittest

from tests.helper import Dice, ask, diff, gone, keep, look, patch, put, sheet, told_sheet, told_steps

NO_PLACES = (-1, 4, -2147483648, 2147483647)


def told_between(names, rows, other_names, other_rows):
    return ask(sheet(0, names, rows), sheet(1, other_names, other_rows), diff(0, 1))[2]


# All steps that make the other's rows of the one's, with what they cost, by the document's
# words alone; in the order keep, gone, put from the first step on.
def all_ways(names, rows, other_names, other_rows):
    ways = []
    if rows and other_rows:
        before = dict(zip(names, rows[0]))
        settings = []
        for place, name in enumerate(other_names):
            if before.get(name) != other_rows[0][place]:
                settings.append((place, other_rows[0][place]))
        for cost, steps in all_ways(names, rows[1:], other_names, other_rows[1:]):
            ways.append((cost + len(settings), (keep(*settings),) + steps))
    if rows:
        taken = 1 + sum(1 for value in rows[0] if value is not None)
        for cost, steps in all_ways(names, rows[1:], other_names, other_rows):
            ways.append((cost + taken, (gone(),) + steps))
    if other_rows:
        given = 1 + sum(1 for value in other_rows[0] if value is not None)
        for cost, steps in all_ways(names, rows, other_names, other_rows[1:]):
            ways.append((cost + given, (put(*other_rows[0]),) + steps))
    return ways or [(0, ())]


class DiffTest(unittest.TestCase):
    def assert_differs(self, one, other, expected):
        self.assertEqual(told_between(*one, *other), expected)

    def test_number_by_number(self):
        told = told_between(["A", "B"], [[1, 2], [3, 4]], ["A", "B"], [[1, [8, 9]], [5, None], [None, 6]])
        # Putting the second and keeping the third costs as much, but keep is told first.
        keep_first = [0, 1, 1, 2, 8, 9]
        keep_second = [0, 2, 0, 1, 5, 1, 0]
        put_third = [2, 0, 1, 6]
        self.assertEqual(told, [5, 3] + keep_first + keep_second + put_third)

    def test_gone_number_by_number(self):
        self.assertEqual(told_between(["A"], [[1], [2]], ["A"], [[2]]), [2, 2, 1, 0, 0])

    def test_alike(self):
        rows = [[1, 2], [3, None]]
        self.assert_differs((["A", "B"], rows), (["A", "B"], rows), told_steps(0, keep(), keep()))

    def test_a_place_against_itself(self):
        told = ask(sheet(2, ["A"], [[1], [1], [None]]), diff(2, 2))
        self.assertEqual(told[1], told_steps(0, keep(), keep(), keep()))

    def test_no_rows(self):
        self.assert_differs((["A"], []), (["A"], []), told_steps(0))
        self.assert_differs((["A"], []), (["B"], []), told_steps(0))
        self.assert_differs((["A", "B"], []), (["A", "B"], [[1, 2], [3, None]]),
                            told_steps(5, put(1, 2), put(3, None)))
        self.assert_differs((["A", "B"], [[1, 2], [3, None]]), (["A", "B"], []),
                            told_steps(5, gone(), gone()))

    def test_just_the_cells_that_differ(self):
        self.assert_differs((["A", "B", "C", "D"], [[1, 2, 3, 4]]), (["A", "B", "C", "D"], [[1, 9, 3, None]]),
                            told_steps(2, keep((1, 9), (3, None))))

    def test_cells_differ_by_all_their_numbers(self):
        self.assert_differs((["A", "B", "C"], [[[1, 2], [1, 2], 0]]), (["A", "B", "C"], [[[1, 2], [2, 1], [0, 0]]]),
                            told_steps(2, keep((1, [2, 1]), (2, [0, 0]))))

    def test_columns_in_another_order(self):
        self.assert_differs((["A", "B"], [[1, 2], [3, 4]]), (["B", "A"], [[2, 1], [4, 3]]),
                            told_steps(0, keep(), keep()))
        self.assert_differs((["A", "B"], [[1, 1]]), (["B", "A"], [[7, 1]]), told_steps(1, keep((0, 7))))

    def test_settings_in_order_of_the_columns_wanted(self):
        self.assert_differs((["A", "B", "C"], [[1, 2, 3]]), (["C", "A", "B"], [[7, 1, 8]]),
                            told_steps(2, keep((0, 7), (2, 8))))

    def test_a_column_less_costs_nothing(self):
        self.assert_differs((["A", "B"], [[1, 2]]), (["A"], [[1]]), told_steps(0, keep()))

    def test_a_column_more(self):
        self.assert_differs((["A"], [[1], [2]]), (["N", "A"], [[None, 1], [5, 2]]),
                            told_steps(1, keep(), keep((0, 5))))

    def test_a_name_of_no_bytes_is_a_name(self):
        self.assert_differs((["A", ""], [[1, 2]]), (["", "A"], [[2, 1]]), told_steps(0, keep()))

    def test_all_columns_other(self):
        # Keep sets one cell; gone and put would cost 2 and 2.
        self.assert_differs((["A"], [[1]]), (["B"], [[1]]), told_steps(1, keep((0, 1))))

    def test_gone_costs_by_its_own_columns(self):
        # The row's B is no column wanted, but taking the row out costs for it all the same.
        self.assert_differs((["A", "B", "C"], [[1, 2, 3]]), (["A"], []), told_steps(4, gone()))

    def test_nothing_costs_nothing_in_gone_and_put(self):
        self.assert_differs((["A", "B"], [[None, None]]), (["A"], []), told_steps(1, gone()))
        self.assert_differs((["A"], []), (["A", "B"], [[None, None], [None, 4]]),
                            told_steps(3, put(None, None), put(None, 4)))

    def test_setting_nothing_costs_one(self):
        self.assert_differs((["A", "B"], [[1, 2]]), (["A", "B"], [[1, None]]), told_steps(1, keep((1, None))))

    def test_a_row_put_or_gone_rather_than_a_dear_keep(self):
        self.assert_differs((["A", "B", "C"], [[1, 2, 3]]), (["A", "B", "C"], [[None, None, None], [1, 2, 3]]),
                            told_steps(1, put(None, None, None), keep()))
        self.assert_differs((["A", "B", "C"], [[None, None, None], [1, 2, 3]]), (["A", "B", "C"], [[1, 2, 3]]),
                            told_steps(1, gone(), keep()))

    def test_of_the_same_cost_keep_first(self):
        # Which of two rows alike is gone: the last, since the first can be kept.
        self.assert_differs((["A"], [[1], [1]]), (["A"], [[1]]), told_steps(2, keep(), gone()))
        # Which of two rows alike is put: the last.
        self.assert_differs((["A"], [[1]]), (["A"], [[1], [1]]), told_steps(2, keep(), put(1)))
        # Keep and set (1), then gone (2) costs more than gone (1), then keep (0).
        self.assert_differs((["A"], [[None], [1]]), (["A"], [[1]]), told_steps(1, gone(), keep()))
        # Keep and set (1), put nothing (1); or put (2), keep (0): the same cost.
        self.assert_differs((["A"], [[None]]), (["A"], [[1], [None]]), told_steps(2, keep((0, 1)), put(None)))

    def test_of_the_same_cost_gone_ahead_of_put(self):
        # Two rows change places. To keep and set both costs 8; to take the first out and put it
        # behind 6; to put the second ahead and take it out behind 6 too.
        names = ["A", "B", "C", "D"]
        first = [1, 2, None, None]
        second = [None, None, 3, 4]
        self.assert_differs((names, [first, second]), (names, [second, first]),
                            told_steps(6, gone(), keep(), put(*first)))

    def test_put_where_gone_costs_more(self):
        names = ["A", "B", "C", "D"]
        full = [1, 2, 3, 4]
        poor = [None, None, None, 5]
        self.assert_differs((names, [full, poor]), (names, [poor, full]),
                            told_steps(4, put(*poor), keep(), gone()))

    def test_a_row_that_shares_no_cell_is_kept_all_the_same(self):
        # Keep sets at the most the cells that gone and put would count, and these cost 1 more each.
        self.assert_differs((["A", "B"], [[1, 2]]), (["C", "D"], [[3, 4]]), told_steps(2, keep((0, 3), (1, 4))))
        self.assert_differs((["A", "B"], [[1, None]]), (["A", "B"], [[None, 2]]),
                            told_steps(2, keep((0, None), (1, 2))))

    def test_every_way_gone_through(self):
        dice = Dice(3)
        columns = (["A"], ["B", "A"], ["A", "B", "C"], ["A", "B", "C", "D"], ["D", "", "B", "A"])
        ties = 0
        for count in range(400):
            sheets = []
            for side in range(2):
                names = dice.among(columns)
                values = dice.among(((None, 1), (None, 1, 2), (1, 2, 3)))
                rows = [[dice.among(values) for name in names] for row in range(dice.below(5))]
                sheets.append((names, rows))
            ways = all_ways(*sheets[0], *sheets[1])
            cost, steps = min(ways, key=lambda way: way[0])
            self.assert_differs(sheets[0], sheets[1], told_steps(cost, *steps))
            ties += sum(1 for way in ways if way[0] == cost) > 1
        self.assertGreater(ties, 50)

    def test_what_is_told_makes_the_other(self):
        dice = Dice(11)
        for count in range(100):
            names = dice.among((["A", "B"], ["B"], ["C", "A", "B"]))
            wanted = dice.among((["A", "B"], ["B", "A"], ["D", "B"]))
            rows = [[dice.among((None, 1, [2, 3])) for name in names] for row in range(dice.below(20))]
            other = [[dice.among((None, 1, [2, 3])) for name in wanted] for row in range(dice.below(20))]
            first = [sheet(0, names, rows), sheet(1, wanted, other)]
            told = ask(*first, diff(0, 1))[2]
            steps = handed_in(told, len(wanted))
            made = ask(*first, patch(0, 2, wanted, steps), look(2))
            self.assertEqual(made[2:], [[len(other)], told_sheet(wanted, other)])
            self.assertEqual(told[0], cost_of(steps, rows))

    def test_changes_nothing(self):
        told = ask(sheet(0, ["A"], [[1]]), sheet(1, ["B"], [[2]]), diff(0, 1), look(0), look(1))
        self.assertEqual(told[3:], [told_sheet(["A"], [[1]]), told_sheet(["B"], [[2]])])

    def test_no_place(self):
        for k in NO_PLACES:
            told = ask(sheet(0, ["A"], []), diff(k, 0), diff(0, k), diff(k, k))
            self.assertEqual(told[1:], [[-1]] * 3)

    def test_no_sheet(self):
        told = ask(sheet(0, ["A"], []), diff(0, 1), diff(1, 0), diff(1, 1), diff(3, 2))
        self.assertEqual(told[1:], [[-2]] * 4)

    def test_no_place_is_told_ahead_of_no_sheet(self):
        for k in NO_PLACES:
            self.assertEqual(ask(diff(1, k), diff(k, 1)), [[-1], [-1]])


# What diff answered, as steps that can be handed in.
def handed_in(told, width):
    place = [2]

    def number():
        place[0] += 1
        return told[place[0] - 1]

    def numbers():
        return [number() for count in range(number())]

    steps = []
    for count in range(told[1]):
        kind = number()
        if kind == 0:
            steps.append(keep(*[(number(), numbers()) for setting in range(number())]))
        elif kind == 1:
            steps.append(gone())
        else:
            steps.append(put(*[numbers() for column in range(width)]))
    assert place[0] == len(told)
    return steps


def cost_of(steps, rows):
    cost = 0
    at = 0
    for kind, content in steps:
        if kind == "keep":
            cost += len(content)
        elif kind == "gone":
            cost += 1 + sum(1 for value in rows[at] if value is not None)
        else:
            cost += 1 + sum(1 for value in content if value)
        if kind != "put":
            at += 1
    return cost


if __name__ == "__main__":
    unittest.main()
