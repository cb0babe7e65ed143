"""Promise 2 and the words: which shapes are won for the one at turn."""

import unittest

from bittenbar.bar import answers
from plainbar import (BACK_CALL, LARGEST, SHOWS_CALL, WON_CALL, all_shapes, bar, bite, is_won, line, shape,
                      squares_of, told, told_in_long_lines)


def won(*rows):
    return told(shape(*rows), WON_CALL)[1]


class Won(unittest.TestCase):
    def test_all_shapes_each_in_a_line_of_its_own(self):
        shapes = all_shapes()
        self.assertEqual(len(set(shapes)), 461)
        for rows in shapes:
            with self.subTest(rows=rows):
                self.assertEqual(won(*rows), [int(is_won(squares_of(rows)))])

    def test_all_shapes_twenty_in_a_line(self):
        for rows, answer in told_in_long_lines(WON_CALL):
            with self.subTest(rows=rows):
                self.assertEqual(answer, [int(is_won(squares_of(rows)))])

    def test_a_single_square_is_lost(self):
        self.assertEqual(answers(WON_CALL), [1, 0])
        self.assertEqual(told(bar(1, 1), WON_CALL), [[1], [0]])
        self.assertEqual(won(1), [0])

    def test_every_other_whole_bar_is_won(self):
        for r in range(1, 6):
            for c in range(1, 7):
                if (r, c) != (1, 1):
                    with self.subTest(r=r, c=c):
                        self.assertEqual(told(bar(r, c), WON_CALL), [[r * c], [1]])

    def test_two_rows_are_lost_if_one_is_a_square_shorter(self):
        for first in range(1, 7):
            for second in range(1, first + 1):
                with self.subTest(first=first, second=second):
                    self.assertEqual(won(first, second), [0 if second == first - 1 else 1])

    def test_hooks_are_lost_if_the_arms_are_even(self):
        for first in range(1, 7):
            for rows in range(1, 6):
                with self.subTest(first=first, rows=rows):
                    self.assertEqual(won(first, *[1] * (rows - 1)), [0 if first == rows else 1])

    def test_three_rows_that_are_lost(self):
        lost = [rows for rows in all_shapes(3, 6) if len(rows) == 3 and won(*rows) == [0]]
        self.assertEqual(lost, [(2, 2, 1), (3, 1, 1), (4, 2, 2), (5, 3, 2), (5, 5, 3), (6, 3, 3), (6, 4, 2)])

    def test_nothing_is_left(self):
        self.assertEqual(answers(line(bite(1, 1), WON_CALL)), [1, 1, 1, -6])
        self.assertEqual(told(bar(3, 4), WON_CALL, bite(1, 1), WON_CALL, SHOWS_CALL, BACK_CALL, WON_CALL, SHOWS_CALL),
                         [[12], [1], [12], [-6], [0, 1], [12], [1], [3, 4, 4, 4, 0]])

    def test_behind_bites_and_back(self):
        self.assertEqual(
            told(bar(2, 2), WON_CALL, bite(2, 2), WON_CALL, bite(2, 1), WON_CALL, bite(1, 2), WON_CALL,
                 BACK_CALL, WON_CALL, BACK_CALL, WON_CALL, BACK_CALL, WON_CALL),
            [[4], [1], [1], [0], [1], [1], [1], [0], [2], [1], [3], [0], [4], [1]])

    def test_nothing_changes(self):
        self.assertEqual(told(shape(3, 2), bite(2, 2), WON_CALL, SHOWS_CALL, WON_CALL, BACK_CALL, SHOWS_CALL),
                         [[5], [1], [1], [2, 3, 1, 1], [1], [5], [2, 3, 2, 0]])

    def test_behind_refusals(self):
        self.assertEqual(
            told(shape(3, 2), bar(6, 6), WON_CALL, shape(1, 2), WON_CALL, bite(3, LARGEST), WON_CALL, BACK_CALL,
                 WON_CALL),
            [[5], [-1], [0], [-1], [0], [-2], [0], [-9], [0]])


if __name__ == "__main__":
    unittest.main()
