"""Promise 2 and the words: the good bites."""

import unittest

from bittenbar.bar import answers
from plainbar import (BACK_CALL, GOOD_CALL, SHOWS_CALL, WON_CALL, all_shapes, bar, bite, good_bites, is_won, line,
                      shape, squares_of, told, told_in_long_lines)


def good(*rows):
    return told(shape(*rows), GOOD_CALL)[1]


def expected(rows):
    bites = good_bites(squares_of(rows))
    return [len(bites), *[number for square in bites for number in square]]


class Good(unittest.TestCase):
    def test_all_shapes_each_in_a_line_of_its_own(self):
        for rows in all_shapes():
            with self.subTest(rows=rows):
                self.assertEqual(good(*rows), expected(rows))

    def test_all_shapes_twenty_in_a_line(self):
        for rows, answer in told_in_long_lines(GOOD_CALL):
            with self.subTest(rows=rows):
                self.assertEqual(answer, expected(rows))

    def test_just_the_bites_behind_which_it_is_not_won(self):
        for rows in [(2, 2), (3, 2, 1), (4, 3, 2, 1), (5, 3, 3, 2, 2), (6, 6, 4, 3, 3), (6, 6, 6, 5, 2)]:
            bites = [square for square in sorted(squares_of(rows)) if square != (1, 1)]
            found = [square for square in bites if told(shape(*rows), bite(*square), WON_CALL)[2] == [0]]
            with self.subTest(rows=rows):
                self.assertEqual(good(*rows), [len(found), *[number for square in found for number in square]])

    def test_a_single_row_and_a_single_column(self):
        for squares in range(2, 7):
            self.assertEqual(good(squares), [1, 1, 2])
        for rows in range(2, 6):
            self.assertEqual(good(*[1] * rows), [1, 2, 1])

    def test_the_order_by_rows_then_by_squares(self):
        self.assertEqual(good(3, 2, 1), [3, 1, 3, 2, 2, 3, 1])
        self.assertEqual(good(4, 2, 2, 2, 1), [3, 1, 3, 3, 2, 4, 1])
        self.assertEqual(good(6, 6, 4, 3, 3), [3, 2, 5, 3, 4, 5, 3])

    def test_whole_bars(self):
        self.assertEqual(told(bar(2, 2), GOOD_CALL), [[4], [1, 2, 2]])
        self.assertEqual(told(bar(2, 6), GOOD_CALL), [[12], [1, 2, 6]])
        for side in range(2, 6):
            with self.subTest(side=side):
                self.assertEqual(told(bar(side, side), GOOD_CALL)[1], [1, 2, 2])

    def test_of_a_lost_shape_the_number_stands_alone(self):
        for rows in all_shapes():
            if not is_won(squares_of(rows)):
                with self.subTest(rows=rows):
                    self.assertEqual(answers(line(shape(*rows), GOOD_CALL)), [1, sum(rows), 1, 0])

    def test_of_a_single_square_the_bitter_bite_is_not_good(self):
        self.assertEqual(answers(GOOD_CALL), [1, 0])
        self.assertEqual(told(bar(1, 1), GOOD_CALL), [[1], [0]])
        self.assertEqual(good(1), [0])

    def test_nothing_is_left(self):
        self.assertEqual(answers(line(bite(1, 1), GOOD_CALL)), [1, 1, 1, -6])
        self.assertEqual(
            told(bar(3, 4), bite(2, 2), bite(1, 1), GOOD_CALL, SHOWS_CALL, BACK_CALL, GOOD_CALL, SHOWS_CALL),
            [[12], [6], [6], [-6], [0, 2], [6], [1, 1, 4], [3, 4, 1, 1, 1]])

    def test_nothing_changes(self):
        self.assertEqual(
            told(shape(3, 2, 1), bite(3, 1), GOOD_CALL, SHOWS_CALL, BACK_CALL, GOOD_CALL, GOOD_CALL, SHOWS_CALL,
                 BACK_CALL),
            [[6], [1], [0], [2, 3, 2, 1], [6], [3, 1, 3, 2, 2, 3, 1], [3, 1, 3, 2, 2, 3, 1], [3, 3, 2, 1, 0], [-9]])


if __name__ == "__main__":
    unittest.main()
