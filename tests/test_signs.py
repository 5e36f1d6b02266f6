import unittest

from helper import NOT_ROWS, NOT_WHOLE, by_names
from wearplan.signs import is_rising_row, is_row, is_whole, is_whole_row

GREAT = 10 ** 60


class IsWholeTest(unittest.TestCase):
    def test_around_both_bounds(self):
        for least, most in ((0, 0), (1, 9), (-7, -3), (-2, 2), (0, GREAT), (-GREAT, 0), (GREAT, GREAT + 2)):
            for thing, answer in (
                (least - 1, False), (least, True), (most, True), (most + 1, False), ((least + most) // 2, True),
                (least - GREAT, False), (most + GREAT, False),
            ):
                with self.subTest(thing=thing, least=least, most=most):
                    self.assertIs(is_whole(thing, least, most), answer)

    def test_none_where_least_is_above_most(self):
        for least, most in ((1, 0), (9, 1), (-1, -2), (GREAT, -GREAT)):
            for thing in (least - 1, least, least + 1, most - 1, most, most + 1, 0, (least + most) // 2):
                with self.subTest(thing=thing, least=least, most=most):
                    self.assertIs(is_whole(thing, least, most), False)

    def test_other_things_are_none(self):
        for thing in NOT_WHOLE:
            for least, most in ((0, 1), (0, 0), (1, 1), (-GREAT, GREAT), (1, 0)):
                with self.subTest(thing=thing, least=least, most=most):
                    self.assertIs(is_whole(thing, least, most), False)

    def test_by_name_in_any_order(self):
        self.assertEqual(by_names(is_whole, thing=3, least=1, most=9), [True] * 6)
        self.assertEqual(by_names(is_whole, thing=0, least=1, most=9), [False] * 6)

    def test_same_each_time_and_nothing_changed(self):
        thing = [1, [2, {"a": [3]}]]
        self.assertEqual([is_whole(thing, 0, 9) for again in range(3)], [False] * 3)
        self.assertEqual(thing, [1, [2, {"a": [3]}]])


class RowsTest(unittest.TestCase):
    def test_rows(self):
        for thing in ([], (), [1], ("a", None), [[]]):
            self.assertIs(is_row(thing), True)
        for thing in NOT_ROWS:
            self.assertIs(is_row(thing), False)

    def test_rows_of_whole_numbers(self):
        for thing in ([2], (2,), [2, 4], (4, 3)):
            self.assertIs(is_whole_row(thing, 1, 2, 2, 4), True)
        for thing in ([], (), [2, 3, 4], [1], [5], (2, 5), [True], [None], ["2"], [[2]], *NOT_ROWS):
            self.assertIs(is_whole_row(thing, 1, 2, 2, 4), False)

    def test_rising_rows(self):
        for thing in ([], (), [2], (4,), [2, 3], (2, 4), [2, 3, 4]):
            self.assertIs(is_rising_row(thing, 2, 4), True)
        for thing in ([1], [5], [2, 2], [3, 2], (2, 4, 3), [2, 3, 4, 4], [2, 3, 4, 5], [1, 2], [True], [2, None],
                      ["2"], [[2]], *NOT_ROWS):
            self.assertIs(is_rising_row(thing, 2, 4), False)
        for thing, answer in (((), True), ([0], False), ([-1], False), ([0, -1], False), (None, False)):
            self.assertIs(is_rising_row(thing, 0, -1), answer)


if __name__ == "__main__":
    unittest.main()
