"""Promise 2: sheet."""

import unittest

from tests.helper import ask, look, sheet, told_sheet

NO_PLACES = (-1, 4, 5, 2147483647, -2147483648)


class SheetTest(unittest.TestCase):
    def assert_taken(self, names, rows):
        told = ask(sheet(1, names, rows), look(1))
        self.assertEqual(told, [[0], told_sheet(names, rows)])

    def assert_none(self, names, rows):
        told = ask(sheet(1, names, rows), look(1))
        self.assertEqual(told, [[-3], [-2]])

    def test_each_place(self):
        for k in range(4):
            told = ask(sheet(k, ["A", "B"], [[1, 2], [3, None]]), *[look(n) for n in range(4)])
            expected = [[-2]] * 4
            expected[k] = told_sheet(["A", "B"], [[1, 2], [3, None]])
            self.assertEqual(told, [[0]] + expected)

    def test_another_sheet_takes_the_place(self):
        told = ask(sheet(0, ["A"], [[1]]), sheet(0, ["B", "C"], [[2, 3]]), look(0))
        self.assertEqual(told, [[0], [0], told_sheet(["B", "C"], [[2, 3]])])

    def test_no_place(self):
        for k in NO_PLACES:
            self.assertEqual(ask(sheet(k, ["A"], [[1]])), [[-1]])

    def test_no_place_is_told_ahead_of_no_sheet(self):
        for k in NO_PLACES:
            self.assertEqual(ask(sheet(k, [], [])), [[-1]])
            self.assertEqual(ask(sheet(k, ["A", "A"], [[1]])), [[-1]])

    def test_no_column(self):
        self.assert_none([], [])
        self.assert_none([], [[]])

    def test_names_alike(self):
        self.assert_none(["A", "A"], [])
        self.assert_none(["A", "B", "A"], [[1, 2, 3]])
        self.assert_none(["", "B", ""], [])

    def test_names_that_are_nearly_alike(self):
        self.assert_taken(["A", "a", "AA", ""], [[1, 2, 3, 4]])

    def test_length_of_names(self):
        self.assert_taken([""], [[1]])
        self.assert_taken(["n" * 63, "n" * 64], [[1, 2]])
        self.assert_none(["n" * 65], [[1]])
        self.assert_none(["A", "n" * 70], [])

    def test_every_byte_in_a_name(self):
        every = "".join(chr(byte) for byte in range(256))
        self.assert_taken([every[at:at + 64] for at in range(0, 256, 64)], [])

    def test_cells_in_a_row(self):
        self.assert_none(["A", "B"], [[1]])
        self.assert_none(["A", "B"], [[1, 2, 3]])
        self.assert_none(["A", "B"], [[]])
        self.assert_none(["A", "B"], [[1, 2], [3, 4], [5]])

    def test_length_of_cells(self):
        self.assert_taken(["A"], [[[7] * 64], [None]])
        self.assert_none(["A"], [[[7] * 65]])
        self.assert_none(["A", "B"], [[1, 2], [3, [7] * 70]])

    def test_widest_numbers(self):
        self.assert_taken(["A"], [[[-2**63, 2**63 - 1, 0, -1]]])

    def test_no_rows(self):
        self.assert_taken(["A"], [])

    def test_as_much_as_is_handed_over(self):
        names = [f"column {n}" for n in range(8)]
        self.assert_taken(names, [[row * 8 + n for n in range(8)] for row in range(20)])

    # More columns and rows than are handed in, so that the promise shows.
    def test_more_than_a_sheet_may_have(self):
        names = [f"column {n}" for n in range(65)]
        self.assert_taken(names[:64], [list(range(64))])
        self.assert_none(names, [list(range(65))])
        self.assert_taken(["A"], [[row] for row in range(256)])
        self.assert_none(["A"], [[row] for row in range(257)])

    def test_refused_the_place_keeps_what_it_had(self):
        before = told_sheet(["A"], [[1]])
        for names, rows in (([], []), (["B", "B"], []), (["n" * 65], []), (["B"], [[]]), (["B"], [[[0] * 65]])):
            told = ask(sheet(3, ["A"], [[1]]), sheet(3, names, rows), look(3))
            self.assertEqual(told, [[0], [-3], before])


if __name__ == "__main__":
    unittest.main()
