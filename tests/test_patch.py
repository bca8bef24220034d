"""Promise 4: patch."""

import unittest

from tests.helper import ask, gone, keep, look, patch, put, sheet, told_sheet

NO_PLACES = (-1, 4, -2147483648, 2147483647)
NAMES = ["A", "B"]
ROWS = [[1, 2], [3, 4]]


class PatchTest(unittest.TestCase):
    def assert_makes(self, names, steps, expected):
        told = ask(sheet(0, NAMES, ROWS), patch(0, 1, names, steps), look(1), look(0))
        self.assertEqual(told, [[0], [len(expected)], told_sheet(names, expected), told_sheet(NAMES, ROWS)])

    def assert_refused(self, names, steps):
        told = ask(sheet(0, NAMES, ROWS), sheet(1, ["C"], [[7]]), patch(0, 1, names, steps), look(1), look(0))
        self.assertEqual(told[2:], [[-3], told_sheet(["C"], [[7]]), told_sheet(NAMES, ROWS)])

    def test_number_by_number(self):
        call = [3, 0, 1, 2, 1, 66, 0, 3, 0, 1, 1, 2, 8, 9, 1, 2, 2, 0, 1, 5]
        told = ask(sheet(0, NAMES, ROWS), call, look(1))
        self.assertEqual(told, [[0], [2], [0, 2, 1, 66, 0, 2, 1, 2, 2, 8, 9, 0, 1, 5]])

    def test_keep(self):
        self.assert_makes(NAMES, [keep(), keep()], ROWS)

    def test_keep_by_the_columns_wanted(self):
        self.assert_makes(["B", "N", "A"], [keep(), keep()], [[2, None, 1], [4, None, 3]])
        self.assert_makes(["B"], [keep(), keep()], [[2], [4]])
        self.assert_makes(["N", ""], [keep(), keep()], [[None, None], [None, None]])

    def test_keep_sets_cells_at_their_places_wanted(self):
        self.assert_makes(["B", "A"], [keep((0, 7)), keep((1, None), (0, [8, 9]))], [[7, 1], [[8, 9], None]])

    def test_keep_sets_the_same_place_twice(self):
        self.assert_makes(NAMES, [keep((0, 7), (0, 8)), keep((1, 5), (0, 6), (1, None))], [[8, 2], [6, None]])

    def test_keep_may_set_what_is_there_already(self):
        self.assert_makes(NAMES, [keep((0, 1)), keep()], ROWS)

    def test_gone(self):
        self.assert_makes(NAMES, [gone(), keep()], [[3, 4]])
        self.assert_makes(NAMES, [keep(), gone()], [[1, 2]])
        self.assert_makes(NAMES, [gone(), gone()], [])

    def test_put(self):
        self.assert_makes(NAMES, [put(5, 6), keep(), put(7, None), keep(), put(None, None)],
                          [[5, 6], [1, 2], [7, None], [3, 4], [None, None]])
        self.assert_makes(["N"], [gone(), put([1, 2, 3]), gone()], [[[1, 2, 3]]])

    def test_no_steps_on_no_rows(self):
        told = ask(sheet(0, NAMES, []), patch(0, 3, ["N"], []), look(3))
        self.assertEqual(told[1:], [[0], told_sheet(["N"], [])])

    def test_to_the_place_itself(self):
        told = ask(sheet(0, NAMES, ROWS), patch(0, 0, ["B"], [gone(), keep()]), look(0))
        self.assertEqual(told[1:], [[1], told_sheet(["B"], [[4]])])

    def test_to_each_place(self):
        for to in range(1, 4):
            told = ask(sheet(0, NAMES, ROWS), patch(0, to, ["B"], [gone(), keep()]), look(0), *map(look, (1, 2, 3)))
            expected = [[-2]] * 3
            expected[to - 1] = told_sheet(["B"], [[4]])
            self.assertEqual(told[1:], [[1], told_sheet(NAMES, ROWS)] + expected)

    def test_two_patches_of_one_sheet(self):
        told = ask(sheet(0, NAMES, ROWS), patch(0, 1, NAMES, [keep((0, 9)), keep()]), patch(0, 2, NAMES, [keep()] * 2),
                   look(1), look(2))
        self.assertEqual(told[3:], [told_sheet(NAMES, [[9, 2], [3, 4]]), told_sheet(NAMES, ROWS)])

    def test_cells_too_long(self):
        self.assert_makes(NAMES, [keep((0, [1] * 64)), gone(), put(None, [2] * 64)],
                          [[[1] * 64, 2], [None, [2] * 64]])
        self.assert_refused(NAMES, [keep((0, [1] * 65)), keep()])
        self.assert_refused(NAMES, [keep(), keep(), put(1, [1] * 65)])
        self.assert_refused(NAMES, [keep((0, [1] * 65), (0, 2)), keep()])
        self.assert_refused(NAMES, [keep(), keep((1, 2), (1, [1] * 70))])

    def test_columns_that_a_sheet_may_not_have(self):
        self.assert_refused([], [gone(), gone()])
        self.assert_refused([], [keep(), keep()])
        self.assert_refused(["A", "A"], [keep(), keep()])
        self.assert_refused(["A", "B", "A"], [gone(), gone()])
        self.assert_refused(["n" * 65], [gone(), gone()])
        self.assert_makes(["", "n" * 64], [gone(), gone()], [])

    def test_a_cell_set_where_no_column_is(self):
        self.assert_makes(["B"], [keep((0, 9)), keep()], [[9], [4]])
        self.assert_refused(["B"], [keep((1, 9)), keep()])
        self.assert_refused(NAMES, [keep(), keep((0, 1), (2, 9))])
        self.assert_refused(NAMES, [keep((65535, 9)), keep()])
        self.assert_makes(["A", "B", "C"], [keep((2, 9)), keep()], [[1, 2, 9], [3, 4, None]])

    def test_a_row_put_with_another_count_of_cells(self):
        self.assert_refused(NAMES, [put(1), keep(), keep()])
        self.assert_refused(NAMES, [put(1, 2, 3), keep(), keep()])
        self.assert_refused(NAMES, [keep(), keep(), put()])
        self.assert_refused(["B"], [put(1, 2), keep(), keep()])

    def test_steps_that_end_too_early(self):
        self.assert_refused(NAMES, [])
        self.assert_refused(NAMES, [keep()])
        self.assert_refused(NAMES, [gone()])
        self.assert_refused(NAMES, [put(1, 2), keep(), put(3, 4)])

    def test_steps_that_want_a_row_that_is_not_there(self):
        self.assert_refused(NAMES, [keep(), keep(), keep()])
        self.assert_refused(NAMES, [keep(), gone(), gone()])
        self.assert_refused(NAMES, [gone(), gone(), put(1, 2), keep()])
        told = ask(sheet(0, ["A"], []), patch(0, 0, ["A"], [keep()]), patch(0, 0, ["A"], [gone()]))
        self.assertEqual(told[1:], [[-3], [-3]])

    # More steps than are handed in, so that the promise shows.
    def test_more_rows_than_a_sheet_may_have(self):
        for rows in ([], [[1]] * 20):
            keeps = [keep()] * len(rows)
            puts = [put(5)] * (256 - len(rows))
            told = ask(sheet(0, ["A"], rows), patch(0, 1, ["A"], keeps + puts), look(1),
                       patch(0, 1, ["A"], keeps + puts + [put(6)]), look(1))
            made = told_sheet(["A"], rows + [[5]] * (256 - len(rows)))
            self.assertEqual(told[1:], [[256], made, [-3], made])

    def test_rows_gone_do_not_count(self):
        told = ask(sheet(0, ["A"], [[1]] * 20), patch(0, 1, ["A"], [gone()] * 20 + [put(5)] * 256))
        self.assertEqual(told[1:], [[256]])

    def test_no_place(self):
        for k in NO_PLACES:
            told = ask(sheet(0, ["A"], []), patch(k, 0, ["A"], []), patch(0, k, ["A"], []), patch(k, k, ["A"], []),
                       look(0))
            self.assertEqual(told[1:], [[-1]] * 3 + [told_sheet(["A"], [])])

    def test_no_sheet(self):
        told = ask(sheet(0, ["A"], []), patch(1, 0, ["A"], []), patch(2, 3, ["A"], []), look(0))
        self.assertEqual(told[1:], [[-2], [-2], told_sheet(["A"], [])])

    def test_which_refusal_is_told_first(self):
        for k in NO_PLACES:
            told = ask(patch(1, k, [], [keep()]), patch(k, 1, [], [keep()]), sheet(0, ["A"], []),
                       patch(0, k, [], [keep()]))
            self.assertEqual(told, [[-1], [-1], [0], [-1]])
        self.assertEqual(ask(patch(1, 1, [], [keep()])), [[-2]])


if __name__ == "__main__":
    unittest.main()
