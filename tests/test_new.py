"""Promise 1: new."""

import unittest

from tests.helper import ask, diff, join, look, new, patch, sheet, told_sheet

FOUR_SHEETS = [sheet(k, ["A"], [[k]]) for k in range(4)]
FOUR_LOOKS = [look(k) for k in range(4)]


class NewTest(unittest.TestCase):
    def test_answers_nought(self):
        self.assertEqual(ask(new()), [[0]])

    def test_takes_every_sheet_away(self):
        told = ask(*FOUR_SHEETS[:3], FOUR_SHEETS[3], *FOUR_LOOKS[:2], new(), *FOUR_LOOKS)
        self.assertEqual(told[:4], [[0]] * 4)
        self.assertEqual(told[4:6], [told_sheet(["A"], [[0]]), told_sheet(["A"], [[1]])])
        self.assertEqual(told[6:], [[0], [-2], [-2], [-2], [-2]])

    def test_places_take_sheets_again_afterwards(self):
        told = ask(sheet(2, ["A"], [[1]]), new(), sheet(2, ["B"], []), look(2))
        self.assertEqual(told, [[0], [0], [0], told_sheet(["B"], [])])

    def test_twice(self):
        self.assertEqual(ask(new(), new(), look(0)), [[0], [0], [-2]])

    def test_a_line_begins_with_no_sheet(self):
        self.assertEqual(ask(*FOUR_LOOKS), [[-2]] * 4)

    def test_any_call_may_be_the_first(self):
        self.assertEqual(ask(new()), [[0]])
        self.assertEqual(ask(sheet(0, ["A"], [])), [[0]])
        self.assertEqual(ask(diff(0, 0)), [[-2]])
        self.assertEqual(ask(patch(0, 0, ["A"], [])), [[-2]])
        self.assertEqual(ask(join(0, 0, 0, 0)), [[-2]])
        self.assertEqual(ask(look(0)), [[-2]])

    def test_a_line_keeps_nothing_for_the_next(self):
        ask(*FOUR_SHEETS)
        self.assertEqual(ask(*FOUR_LOOKS), [[-2]] * 4)


if __name__ == "__main__":
    unittest.main()
