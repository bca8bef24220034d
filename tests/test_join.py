"""Promise 5: join."""

import unittest

from tests.helper import ask, join, look, new, patch, put, sheet, told_sheet, told_untold

NO_PLACES = (-1, 4, -2147483648, 2147483647)


def told_join(o, a, b):
    return ask(sheet(0, *o), sheet(1, *a), sheet(2, *b), join(0, 1, 2, 3), look(3))[3:]


class JoinCase(unittest.TestCase):
    def assert_joins(self, o, a, b, joined, *untold):
        self.assertEqual(told_join(o, a, b), [told_untold(*untold), told_sheet(*joined)])

    # For sheets that have the same columns.
    def assert_rows_join(self, names, o, a, b, joined, *untold):
        self.assert_joins((names, o), (names, a), (names, b), (names, joined), *untold)

    # For sheets with no rows, so that just the columns matter.
    def assert_columns_join(self, o, a, b, joined):
        told = told_join((o, []), (a, []), (b, []))
        self.assertEqual(told[1], told_sheet(joined, []))


class CellsTest(JoinCase):
    def test_nobody_changed_anything(self):
        rows = [[1, 2], [3, None]]
        self.assert_rows_join(["A", "B"], rows, rows, rows, rows)

    def test_each_changed_another_cell(self):
        self.assert_rows_join(["A", "B"], [[1, 2]], [[7, 2]], [[1, 8]], [[7, 8]])

    def test_one_changed_a_cell(self):
        self.assert_rows_join(["A", "B"], [[1, 2]], [[7, 2]], [[1, 2]], [[7, 2]])
        self.assert_rows_join(["A", "B"], [[1, 2]], [[1, 2]], [[1, None]], [[1, None]])

    def test_both_changed_a_cell_alike(self):
        self.assert_rows_join(["A", "B"], [[1, 2]], [[7, 2]], [[7, 2]], [[7, 2]])

    def test_both_changed_a_cell_otherwise(self):
        self.assert_rows_join(["A", "B"], [[1, 2]], [[7, 2]], [[8, 2]], [[7, 2]], (1, 0, 0))
        self.assert_rows_join(["A", "B"], [[1, 2]], [[1, None]], [[1, 8]], [[1, None]], (1, 0, 1))

    def test_untold_cells_by_rows_then_columns(self):
        self.assert_rows_join(
            ["A", "B", "C", "D", "E"],
            [[1, 2, 3, 4, 5], [6, 7, 8, 9, 10], [11, 12, 13, 14, 15]],
            [[1, 2, 3, 4, 20], [6, 7, 8, 9, 10], [31, 12, 33, 14, 15]],
            [[1, 2, 3, 4, 21], [6, 27, 8, 9, 10], [41, 12, 43, 14, 15]],
            [[1, 2, 3, 4, 20], [6, 27, 8, 9, 10], [31, 12, 33, 14, 15]],
            (1, 0, 4), (1, 2, 0), (1, 2, 2))

    def test_places_are_those_of_the_joined_sheet(self):
        # b puts a row ahead and a new column first, so the cell stands at row 1 and column 2.
        self.assert_joins((["A", "B"], [[1, 2]]), (["A", "B"], [[1, 7]]),
                          (["N", "A", "B"], [[None, 5, None], [None, 1, 8]]),
                          (["N", "A", "B"], [[None, 5, None], [None, 1, 7]]), (1, 1, 2))

    def test_columns_in_another_order_are_no_change_of_cells(self):
        self.assert_joins((["A", "B"], [[1, 2]]), (["B", "A"], [[2, 7]]), (["A", "B"], [[1, 8]]),
                          (["B", "A"], [[8, 7]]))


class RowsGoneTest(JoinCase):
    NAMES = ["A", "B"]

    def test_gone_in_both(self):
        self.assert_rows_join(self.NAMES, [[1, 2], [3, 4]], [[3, 4]], [[3, 4]], [[3, 4]])

    def test_gone_in_one_and_unchanged_in_the_other(self):
        self.assert_rows_join(self.NAMES, [[1, 2], [3, 4]], [[3, 4]], [[1, 2], [3, 4]], [[3, 4]])
        self.assert_rows_join(self.NAMES, [[1, 2], [3, 4]], [[1, 2], [3, 4]], [[3, 4]], [[3, 4]])

    def test_gone_in_a_and_changed_in_b(self):
        self.assert_rows_join(self.NAMES, [[1, 2], [3, 4]], [[3, 4]], [[1, 9], [3, 4]], [[1, 9], [3, 4]], (2, 0, 1))

    def test_gone_in_b_and_changed_in_a(self):
        self.assert_rows_join(self.NAMES, [[1, 2], [3, 4]], [[1, 2], [3, None]], [[1, 2]], [[1, 2], [3, None]],
                              (2, 1, 2))

    def test_all_gone_in_one(self):
        self.assert_rows_join(self.NAMES, [[1, 2], [3, 4]], [], [[1, 2], [3, 4]], [])
        self.assert_rows_join(self.NAMES, [[1, 2], [3, 4]], [[1, 2], [3, 5]], [], [[3, 5]], (2, 0, 2))

    def test_changed_in_a_new_column_alone(self):
        self.assert_joins((["A"], [[1], [2]]), (["A"], [[2]]), (["A", "N"], [[1, 5], [2, None]]),
                          (["A", "N"], [[1, 5], [2, None]]), (2, 0, 1))

    def test_a_new_column_with_nothing_is_no_change(self):
        self.assert_joins((["A"], [[1], [2]]), (["A"], [[2]]), (["A", "N"], [[1, None], [2, None]]),
                          (["A", "N"], [[2, None]]))

    def test_a_column_taken_out_is_no_change(self):
        # a takes the first row out; b takes the column B out: that changes no row's cell.
        self.assert_joins((["A", "B"], [[1, 5], [2, None]]), (["A", "B"], [[2, None]]), (["A"], [[1], [2]]),
                          (["A"], [[2]]))

    def test_stays_as_it_is_seen_by_the_keeper(self):
        # b has no column B, and a has touched it in the other row: so b's row shows what o had there.
        self.assert_joins((["A", "B"], [[1, 5], [2, 6]]), (["A", "B"], [[2, 7]]), (["A"], [[9], [2]]),
                          (["A", "B"], [[9, 5], [2, 7]]), (3, 1, 2), (2, 0, 1))

    def test_kinds_in_their_order(self):
        # Column B: b hasn't it. Row 0: a cell. Row 1: gone in a. Row 2: gone in b. Row 3: a cell.
        o = (["A", "B", "C"], [[1, 1, 1], [2, 2, 2], [3, 3, 3], [4, 4, 4]])
        a = (["A", "B", "C"], [[11, 1, 1], [3, 33, 3], [4, 4, 14]])
        b = (["A", "C"], [[12, 1], [2, 22], [4, 24]])
        self.assert_joins(o, a, b,
                          (["A", "B", "C"], [[11, 1, 1], [2, 2, 22], [3, 33, 3], [4, 4, 14]]),
                          (3, 1, 2), (1, 0, 0), (2, 1, 1), (2, 2, 2), (1, 3, 2))


class RowsPutTest(JoinCase):
    NAMES = ["A", "B"]
    ROWS = [[1, 2], [3, 4]]

    def test_by_one(self):
        self.assert_rows_join(self.NAMES, self.ROWS, [[5, 6]] + self.ROWS, self.ROWS, [[5, 6]] + self.ROWS)
        self.assert_rows_join(self.NAMES, self.ROWS, self.ROWS, self.ROWS + [[5, 6]], self.ROWS + [[5, 6]])

    def test_by_both_at_other_places(self):
        self.assert_rows_join(self.NAMES, self.ROWS, [[1, 2], [5, 6], [3, 4]], self.ROWS + [[7, 8]],
                              [[1, 2], [5, 6], [3, 4], [7, 8]])

    def test_by_both_at_one_place_alike(self):
        for put_rows in ([[5, 6]], [[5, 6], [None, 7]]):
            ahead = put_rows + self.ROWS
            between = self.ROWS[:1] + put_rows + self.ROWS[1:]
            behind = self.ROWS + put_rows
            for rows in (ahead, between, behind):
                self.assert_rows_join(self.NAMES, self.ROWS, rows, rows, rows)

    def test_by_both_at_one_place_not_alike(self):
        for by_a, by_b in (([[5, 6]], [[5, 7]]), ([[5, 6]], [[5, 6], [5, 6]]), ([[5, 6], [7, 8]], [[7, 8], [5, 6]])):
            both = by_a + by_b
            self.assert_rows_join(self.NAMES, self.ROWS, by_a + self.ROWS, by_b + self.ROWS, both + self.ROWS)
            self.assert_rows_join(self.NAMES, self.ROWS, self.ROWS + by_a, self.ROWS + by_b, self.ROWS + both)

    def test_where_o_has_no_rows(self):
        self.assert_rows_join(self.NAMES, [], [[1, 2]], [[3, 4]], [[1, 2], [3, 4]])
        self.assert_rows_join(self.NAMES, [], [[1, 2]], [[1, 2]], [[1, 2]])
        self.assert_rows_join(self.NAMES, [], [], [], [])

    def test_alike_by_the_joined_columns(self):
        # The same cells by their names, though the columns stand otherwise.
        self.assert_joins((["A", "B"], []), (["A", "B"], [[1, 2]]), (["B", "A"], [[2, 1]]),
                          (["B", "A"], [[2, 1]]))
        # One has a column more, with nothing in the row put.
        self.assert_joins((["A"], []), (["A", "N"], [[1, None]]), (["A"], [[1]]), (["A", "N"], [[1, None]]))
        # The same numbers in a row, but under other names.
        self.assert_joins((["A"], []), (["A", "N"], [[1, 2]]), (["A", "M"], [[1, 2]]),
                          (["A", "M", "N"], [[1, None, 2], [1, 2, None]]))

    def test_stand_ahead_of_a_row_gone(self):
        # b takes the second row out, a puts one ahead of it.
        self.assert_rows_join(self.NAMES, self.ROWS, [[1, 2], [5, 6], [3, 4]], [[1, 2]], [[1, 2], [5, 6]])

    def test_rows_told_count_the_rows_put(self):
        self.assert_rows_join(self.NAMES, self.ROWS, [[5, 6], [1, 2], [3, 9]], [[7, 8], [1, 2], [3, 10]],
                              [[5, 6], [7, 8], [1, 2], [3, 9]], (1, 3, 1))


class ColumnsTest(JoinCase):
    def test_one_that_only_one_has_untouched(self):
        rows = [[1, 2], [3, 4]]
        self.assert_joins((["A", "B"], rows), (["A"], [[1], [3]]), (["A", "B"], rows), (["A"], [[1], [3]]))
        self.assert_joins((["A", "B"], rows), (["A", "B"], rows), (["B"], [[2], [4]]), (["B"], [[2], [4]]))

    def test_one_that_neither_has(self):
        self.assert_joins((["A", "B"], [[1, 2]]), (["A"], [[1]]), (["A"], [[1]]), (["A"], [[1]]))

    def test_touched_by_a_cell_changed(self):
        self.assert_joins((["A", "B"], [[1, 2], [3, 4]]), (["A"], [[1], [3]]), (["A", "B"], [[1, 2], [3, 9]]),
                          (["A", "B"], [[1, 2], [3, 9]]), (3, 1, 1))
        self.assert_joins((["A", "B"], [[1, 2], [3, 4]]), (["A", "B"], [[7, 2], [3, 4]]), (["B"], [[2], [4]]),
                          (["A", "B"], [[7, 2], [3, 4]]), (3, 0, 2))

    def test_touched_by_a_cell_set_to_nothing(self):
        self.assert_joins((["A", "B"], [[1, 2]]), (["A"], [[1]]), (["A", "B"], [[1, None]]),
                          (["A", "B"], [[1, None]]), (3, 1, 1))

    def test_touched_by_a_row_put(self):
        self.assert_joins((["A", "B"], [[1, 2]]), (["A"], [[1]]), (["A", "B"], [[1, 2], [5, 6]]),
                          (["A", "B"], [[1, 2], [5, 6]]), (3, 1, 1))

    def test_not_touched_by_a_row_put_with_nothing_there(self):
        self.assert_joins((["A", "B"], [[1, 2]]), (["A"], [[1]]), (["A", "B"], [[1, 2], [5, None]]),
                          (["A"], [[1], [5]]))

    def test_not_touched_by_a_row_gone(self):
        self.assert_joins((["A", "B"], [[1, 2], [3, 4]]), (["A"], [[1], [3]]), (["A", "B"], [[1, 2]]),
                          (["A"], [[1]]))

    def test_new_ones_stay(self):
        self.assert_joins((["A"], [[1]]), (["A", "M"], [[1, 5]]), (["A", "N"], [[1, 6]]),
                          (["A", "N", "M"], [[1, 6, 5]]))

    def test_a_new_one_that_both_have(self):
        self.assert_joins((["A"], [[1], [2], [3]]), (["A", "N"], [[1, 5], [2, 6], [3, None]]),
                          (["A", "N"], [[1, 5], [2, 7], [3, 8]]),
                          (["A", "N"], [[1, 5], [2, 6], [3, 8]]), (1, 1, 1))

    def test_several_untold_in_their_order(self):
        self.assert_joins((["A", "B", "C"], [[1, 2, 3]]), (["B", "C"], [[2, 9]]), (["A", "B"], [[8, 2]]),
                          (["A", "B", "C"], [[8, 2, 9]]), (3, 0, 1), (3, 2, 2))


class OrderOfColumnsTest(JoinCase):
    def test_all_the_same(self):
        self.assert_columns_join(["A", "B"], ["A", "B"], ["A", "B"], ["A", "B"])

    def test_b_is_the_first_where_a_has_what_o_had(self):
        self.assert_columns_join(["A", "B", "C"], ["A", "B", "C"], ["C", "A", "B"], ["C", "A", "B"])

    def test_a_is_the_first_else(self):
        self.assert_columns_join(["A", "B", "C"], ["C", "A", "B"], ["A", "B", "C"], ["C", "A", "B"])
        self.assert_columns_join(["A", "B", "C"], ["C", "A", "B"], ["B", "C", "A"], ["C", "A", "B"])

    def test_the_others_new_ones_right_behind_their_neighbours(self):
        self.assert_columns_join(["A", "B"], ["A", "M", "B"], ["A", "N", "B", "P"], ["A", "N", "M", "B", "P"])
        self.assert_columns_join(["A", "B"], ["B", "A"], ["A", "N", "P", "B"], ["B", "A", "N", "P"])

    def test_ahead_of_all_where_none_stands_before(self):
        self.assert_columns_join(["A", "B"], ["B", "A"], ["N", "A", "B"], ["N", "B", "A"])
        self.assert_columns_join(["A", "B"], ["B", "A"], ["N", "P", "A", "B"], ["N", "P", "B", "A"])

    def test_ahead_of_all_where_the_one_before_is_not_there(self):
        # a took B out and b hasn't touched it: it doesn't stay, so N has no neighbour.
        self.assert_columns_join(["A", "B"], ["A"], ["A", "B", "N"], ["N", "A"])
        self.assert_columns_join(["A", "B"], ["A"], ["M", "A", "B", "N"], ["N", "M", "A"])

    def test_new_ones_with_a_having_what_o_had(self):
        self.assert_columns_join(["A", "B"], ["A", "B"], ["N", "A", "B"], ["N", "A", "B"])

    def test_an_old_one_put_back_by_the_other(self):
        # a is the first and hasn't B; b has touched it.
        self.assert_joins((["A", "B", "C"], [[1, 2, 3]]), (["C", "A"], [[3, 1]]), (["A", "B", "C"], [[1, 9, 3]]),
                          (["C", "A", "B"], [[3, 1, 9]]), (3, 2, 1))
        # b is the first, since a's columns are o's, and hasn't B; a has touched it.
        self.assert_joins((["A", "B", "C"], [[1, 2, 3]]), (["A", "B", "C"], [[1, 9, 3]]), (["C", "A"], [[3, 1]]),
                          (["C", "A", "B"], [[3, 1, 9]]), (3, 2, 2))

    def test_one_that_is_there_already_is_not_put_again(self):
        self.assert_columns_join(["A"], ["A", "N"], ["N", "A"], ["A", "N"])


class PlacesTest(JoinCase):
    FIRST = [sheet(0, ["A"], [[1]]), sheet(1, ["A"], [[2]]), sheet(2, ["A"], [[3]])]

    def test_one_place_for_all(self):
        told = ask(sheet(1, ["A", "B"], [[1, 2], [1, None]]), join(1, 1, 1, 1), look(1))
        self.assertEqual(told[1:], [[0], told_sheet(["A", "B"], [[1, 2], [1, None]])])

    def test_to_is_one_of_them(self):
        for to in range(4):
            told = ask(*self.FIRST, join(0, 1, 2, to), *[look(k) for k in range(4)])
            expected = [told_sheet(["A"], [[1]]), told_sheet(["A"], [[2]]), told_sheet(["A"], [[3]]), [-2]]
            expected[to] = told_sheet(["A"], [[2]])
            self.assertEqual(told[3:], [[1, 1, 0, 0]] + expected)

    def test_which_is_which(self):
        told = ask(*self.FIRST, join(0, 2, 1, 3), look(3), join(1, 0, 2, 3), look(3), join(0, 0, 2, 3), look(3))
        self.assertEqual(told[3:], [[1, 1, 0, 0], told_sheet(["A"], [[3]]), [1, 1, 0, 0], told_sheet(["A"], [[1]]),
                                    [0], told_sheet(["A"], [[3]])])

    def test_no_place(self):
        for k in NO_PLACES:
            told = ask(*self.FIRST, join(k, 1, 2, 3), join(0, k, 2, 3), join(0, 1, k, 3), join(0, 1, 2, k), look(3))
            self.assertEqual(told[3:], [[-1]] * 4 + [[-2]])

    def test_no_sheet(self):
        told = ask(*self.FIRST, join(3, 1, 2, 0), join(0, 3, 2, 0), join(0, 1, 3, 0), look(0))
        self.assertEqual(told[3:], [[-2]] * 3 + [told_sheet(["A"], [[1]])])

    def test_no_place_is_told_ahead_of_no_sheet(self):
        for k in NO_PLACES:
            told = ask(join(0, 1, 2, k), join(0, 1, k, 3), join(0, k, 1, 3), join(k, 0, 1, 3))
            self.assertEqual(told, [[-1]] * 4)


class TooLittleOrTooMuchTest(JoinCase):
    def test_no_column_left(self):
        told = ask(sheet(0, ["A", "B"], [[1, 2]]), sheet(1, ["A"], [[1]]), sheet(2, ["B"], [[2]]),
                   sheet(3, ["C"], []), join(0, 1, 2, 3), look(3))
        self.assertEqual(told[4:], [[-5], told_sheet(["C"], [])])

    def test_no_place_and_no_sheet_are_told_ahead(self):
        calls = [sheet(0, ["A", "B"], [[1, 2]]), sheet(1, ["A"], [[1]]), sheet(2, ["B"], [[2]])]
        told = ask(*calls, join(0, 1, 2, 4), join(0, 1, 3, 0), join(0, 1, 2, 3))
        self.assertEqual(told[3:], [[-1], [-2], [-5]])

    # o has no rows; what the places 1 and 2 have, 120 and 60, is put by both at one place.
    def many_rows(self):
        return [sheet(0, ["A"], []), patch(0, 1, ["A"], [put(n) for n in range(60)]),
                patch(0, 2, ["A"], [put(-n) for n in range(60)]), join(0, 1, 2, 1)]

    def test_most_rows(self):
        told = ask(*self.many_rows(), join(0, 1, 2, 1), join(0, 1, 2, 1), sheet(2, ["A"], [[7]] * 16),
                   join(0, 1, 2, 3), look(3))
        self.assertEqual(told[3:8], [[0]] * 5)
        rows = [[n] for n in range(60)] + [[-n] for n in range(60)] * 3 + [[7]] * 16
        self.assertEqual(told[8], told_sheet(["A"], rows))
        self.assertEqual(len(rows), 256)

    def test_more_rows_than_a_sheet_may_have(self):
        told = ask(*self.many_rows(), join(0, 1, 2, 1), join(0, 1, 2, 1), sheet(2, ["A"], [[7]] * 17),
                   sheet(3, ["C"], [[1]]), join(0, 1, 2, 3), look(3), join(0, 1, 2, 2))
        self.assertEqual(told[3:8], [[0]] * 5)
        self.assertEqual(told[8:], [[-5], told_sheet(["C"], [[1]]), [-5]])

    # More columns than are handed in, so that the promise shows.
    def test_more_columns_than_a_sheet_may_have(self):
        first = [f"a{n}" for n in range(32)]
        other = [f"b{n}" for n in range(33)]
        calls = [sheet(0, ["A"], []), sheet(1, first, []), sheet(2, other[:32], [])]
        told = ask(*calls, join(0, 1, 2, 3), look(3), new(), *calls[:2], sheet(2, other, []), join(0, 1, 2, 3), look(3))
        self.assertEqual(told[3:5], [[0], told_sheet(other[:32] + first, [])])
        self.assertEqual(told[9:], [[-5], [-2]])


if __name__ == "__main__":
    unittest.main()
