"""Tests of shadowrow/answers.py: what point 4 of the document tells, shown of rows."""

import unittest

from shadowrow.answers import Answer, Barred, Can
from great_numbers import GREAT

ROWS_THAT_CAN_BE = [
    [], [0], [5], [10 ** 40], [4, 6, 4, 1], [4, 5, 2], [0, 0, 0], [3, 0, 0], [0] * 20, [5, 3, 1, 0, 0],
    [10 ** 40, 10 ** 79, 10 ** 100],
]
# With the size and the most of each.
BARRED_ROWS = [
    ([0, 1], 2, 0), ([1, 1], 2, 0), ([3, 4], 2, 3), ([4, 5, 3], 3, 2), ([4, 6, 4, 2], 4, 1), ([5, 0, 1], 3, 0),
    ([3, 4, 9, 9], 2, 3), ([4, 5, 3, 1], 3, 2), ([0] * 19 + [1], 20, 0),
    ([10 ** 40, 10 ** 80], 2, 10 ** 40 * (10 ** 40 - 1) // 2),
]


class KindsTest(unittest.TestCase):
    def test_can_and_barred_stand_straight_under_answer(self):
        self.assertEqual(Can.__bases__, (Answer,))
        self.assertEqual(Barred.__bases__, (Answer,))

    def test_answer_stands_under_nothing(self):
        self.assertEqual(Answer.__bases__, (object,))

    def test_shows_is_defined_in_each_itself(self):
        self.assertIn("shows", vars(Can))
        self.assertIn("shows", vars(Barred))

    def test_the_fields_are_set_when_an_answer_is_made(self):
        self.assertEqual(vars(Can()), {})
        self.assertEqual(vars(Barred(3, 10 ** 40)), {"size": 3, "most": 10 ** 40})
        self.assertEqual(vars(Barred(most=-1, size=0)), {"size": 0, "most": -1})


class CanTest(unittest.TestCase):
    def test_rows_that_can_be(self):
        for row in ROWS_THAT_CAN_BE:
            self.assertIs(Can().shows(row), True, row)

    def test_barred_rows(self):
        for row, _, _ in BARRED_ROWS:
            self.assertIs(Can().shows(row), False, row)

    def test_by_the_row_as_it_stands_then(self):
        answer, row = Can(), [3]
        self.assertIs(answer.shows(row), True)
        row.append(4)
        self.assertIs(answer.shows(row), False)
        row[0] = 4
        self.assertIs(answer.shows(row), True)


class BarredTest(unittest.TestCase):
    def test_barred_rows(self):
        for row, size, most in BARRED_ROWS:
            self.assertIs(Barred(size, most).shows(row), True, row)

    def test_rows_that_can_be(self):
        for row in ROWS_THAT_CAN_BE:
            for size in range(-1, 22):
                for most in [-1, 0, 1, 3] + row:
                    self.assertIs(Barred(size, most).shows(row), False, row)

    def test_another_size(self):
        for row, size, most in BARRED_ROWS:
            for other in [-size, size + 10 ** 40] + list(range(-1, 22)):
                if other != size:
                    self.assertIs(Barred(other, most).shows(row), False, row)

    def test_another_most(self):
        for row, size, most in BARRED_ROWS:
            for other in [most - 1, most + 1, -most - 1, row[size - 1], row[size - 2] + most + 1] + GREAT:
                self.assertIs(Barred(size, other).shows(row), False, row)

    def test_a_later_size_with_too_many_is_not_the_least(self):
        self.assertIs(Barred(2, 3).shows([3, 4, 9, 9]), True)
        self.assertIs(Barred(3, 2).shows([3, 4, 9, 9]), False)
        self.assertIs(Barred(4, 7).shows([3, 4, 9, 9]), False)

    def test_numbers_below_0_and_of_forty_figures(self):
        for size in [-1, -2, -10 ** 40] + GREAT:
            for most in [-1, 0, 3, -10 ** 40] + GREAT:
                self.assertIs(Barred(size, most).shows([3, 4]), False)
                self.assertIs(Barred(2, most).shows([3, 4]), most == 3)
                self.assertIs(Barred(size, most).shows([]), False)

    def test_by_the_fields_as_they_stand_then(self):
        answer = Barred(2, 3)
        self.assertIs(answer.shows([3, 4]), True)
        answer.most = 4
        self.assertIs(answer.shows([3, 4]), False)
        answer.most = 3
        answer.size = 3
        self.assertIs(answer.shows([3, 4]), False)
        answer.size = 2
        self.assertIs(answer.shows([3, 4]), True)

    def test_true_and_false_are_no_numbers(self):
        self.assertIs(Barred(2, 0).shows([1, 1]), True)
        self.assertIs(Barred(2, False).shows([1, 1]), False)
        self.assertIs(Barred(2, 1).shows([2, 2]), True)
        self.assertIs(Barred(2, True).shows([2, 2]), False)
        self.assertIs(Barred(True, 0).shows([2, 2]), False)


class BothTest(unittest.TestCase):
    def test_rows_stay_as_they_were(self):
        for row in ROWS_THAT_CAN_BE + [row for row, _, _ in BARRED_ROWS]:
            kept = list(row)
            Can().shows(row)
            Barred(2, 3).shows(row)
            self.assertEqual(row, kept)

    def test_showing_changes_no_field(self):
        answer = Barred(2, 3)
        answer.shows([3, 4])
        answer.shows([3, 3])
        self.assertEqual(vars(answer), {"size": 2, "most": 3})

    def test_of_what_is_no_row_nothing_is_so(self):
        for thing in ([0] * 21, [0] * 20 + [1], [1] * 30, [-1], [3, -4], [True], None, (3, 4), "34"):
            self.assertIs(Can().shows(thing), False)
            self.assertIs(Barred(2, 3).shows(thing), False)
            self.assertIs(Barred(2, 0).shows(thing), False)


if __name__ == "__main__":
    unittest.main()
