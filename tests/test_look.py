"""Promise 6: look."""

import unittest

from tests.helper import ask, look, sheet


class LookTest(unittest.TestCase):
    def test_number_by_number(self):
        told = ask(sheet(0, ["AB", ""], [[[5, 6], None], [None, 7]]), look(0))
        columns = [2, 2, 65, 66, 0]
        rows = [2, 2, 5, 6, 0, 0, 1, 7]
        self.assertEqual(told, [[0], [0] + columns + rows])

    def test_no_rows(self):
        self.assertEqual(ask(sheet(0, ["A"], []), look(0))[1], [0, 1, 1, 65, 0])

    def test_changes_nothing(self):
        told = ask(sheet(0, ["A"], [[1]]), look(0), look(0))
        self.assertEqual(told[1], told[2])

    def test_no_place(self):
        for k in (-1, 4, -2147483648, 2147483647):
            self.assertEqual(ask(look(k)), [[-1]])

    def test_no_sheet(self):
        told = ask(sheet(0, ["A"], []), look(1), look(2), look(3))
        self.assertEqual(told, [[0], [-2], [-2], [-2]])


if __name__ == "__main__":
    unittest.main()
