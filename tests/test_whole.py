"""What the document promises over the whole program."""

import unittest

from sheetsheld.desk import answers
from tests.helper import ask, diff, gone, join, keep, line, look, new, patch, put, sheet, told_sheet

LINE = line(
    sheet(0, ["A", "B"], [[1, [2, 3]], [None, 4]]),
    sheet(1, ["B", "A", "N"], [[[2, 3], 7, None], [5, 6, 8]]),
    sheet(2, ["A"], [[9], [None], [1]]),
    diff(0, 1),
    join(0, 1, 2, 3),
    look(3),
    patch(3, 0, ["N", "A"], [keep((0, [1, 2])), gone(), put(1, None), keep()]),
    look(0),
    join(0, 1, 2, 0),
    diff(5, 0),
    new(),
    look(0),
)


# A list that can be read but not changed, not for a while either.
class Sealed(list):
    def refuse(self, *args, **kwargs):
        raise AssertionError("what is handed in was changed")

    append = clear = extend = insert = pop = remove = reverse = sort = refuse
    __setitem__ = __delitem__ = __iadd__ = __imul__ = refuse


class WholeTest(unittest.TestCase):
    def test_what_is_handed_in_is_not_changed(self):
        handed = list(LINE)
        answers(handed)
        self.assertEqual(handed, LINE)
        self.assertEqual(answers(Sealed(LINE)), answers(LINE))

    def test_the_same_answer_each_time(self):
        first = answers(list(LINE))
        answers(line(sheet(0, ["Z"], []), sheet(1, ["Z"], []), look(0)))
        self.assertEqual(answers(list(LINE)), first)
        handed = list(LINE)
        self.assertEqual(answers(handed), answers(handed))

    def test_an_answer_changed_changes_no_other(self):
        first = answers(LINE)
        expected = list(first)
        first.clear()
        self.assertEqual(answers(LINE), expected)

    def test_answers_are_one_plain_list_of_whole_numbers(self):
        told = answers(LINE)
        self.assertIs(type(told), list)
        for number in told:
            self.assertIs(type(number), int)

    def test_one_answer_for_each_call(self):
        told = ask(look(0), look(9), sheet(0, ["A"], [[1]]), look(0), sheet(0, [], []), new(), look(0))
        self.assertEqual(told, [[-2], [-1], [0], told_sheet(["A"], [[1]]), [-3], [0], [-2]])

    def test_how_many_numbers_stand_ahead_of_each_answer(self):
        self.assertEqual(answers([0, 2, 5, 0, 0, 1, 0, 0, 6, 1, 0, 1, 1, 65, 0, 0, 2, 5, 0]),
                         [1, -2, 1, 0, 1, 0, 5, 0, 1, 1, 65, 0])

    def test_a_refusal_is_its_number_alone(self):
        self.assertEqual(answers(line(look(4))), [1, -1])
        self.assertEqual(answers(line(look(3))), [1, -2])
        self.assertEqual(answers(line(sheet(0, [], []))), [1, -3])

    def test_sheets_at_the_four_places_are_apart(self):
        told = ask(*[sheet(k, ["A"], [[k]]) for k in range(4)], patch(0, 1, ["A"], [keep((0, 9))]),
                   *[look(k) for k in range(4)])
        self.assertEqual(told[5:], [told_sheet(["A"], [[value]]) for value in (0, 9, 2, 3)])

    def test_a_list_as_long_as_may_be(self):
        rows = [[[7] * 64 for column in range(8)] for row in range(20)]
        names = [str(column) for column in range(8)]
        told = ask(sheet(0, names, rows), look(0), diff(0, 0))
        self.assertEqual(told, [[0], told_sheet(names, rows), [0, 20] + [0, 0] * 20])

    def test_many_rows_and_columns_held_against_one_another(self):
        names = [f"{column}" for column in range(8)]
        sixty = [put(*[row * column for column in range(8)]) for row in range(1, 61)]
        # 60 and 20 rows make 80; 60 and 80 make 140; 140 and 80 make 220.
        calls = [sheet(0, ["A"], []), patch(0, 1, names, sixty), sheet(2, ["B"], [[1]] * 20),
                 join(0, 1, 2, 2), join(0, 1, 2, 3), join(0, 3, 2, 3), look(3)]
        told = ask(*calls, diff(3, 3), join(3, 3, 3, 3), look(3), diff(3, 0))
        self.assertEqual(told[3:6], [[0]] * 3)
        self.assertEqual(told[7], [0, 220] + [0, 0] * 220)
        self.assertEqual(told[8:10], [[0], told[6]])
        # 8 of a row's 9 cells have something in 3 times 60 rows, 1 in twice 20.
        self.assertEqual(told[10], [180 * 9 + 40 * 2, 220] + [1] * 220)


if __name__ == "__main__":
    unittest.main()
