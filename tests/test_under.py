"""Promise 2 and the words: the shapes that can come from one."""

import unittest

from bittenbar.bar import answers
from plainbar import (BACK_CALL, SHOWS_CALL, UNDER_CALL, all_shapes, bar, bite, is_won, line, shape, shapes_under,
                      squares_of, told, told_in_long_lines)


def under(*rows):
    return told(shape(*rows), UNDER_CALL)[1]


def expected(rows):
    shapes = shapes_under(squares_of(rows))
    return [len(shapes), sum(1 for squares in shapes if not is_won(squares))]


class Under(unittest.TestCase):
    def test_all_shapes_each_in_a_line_of_its_own(self):
        for rows in all_shapes():
            with self.subTest(rows=rows):
                self.assertEqual(under(*rows), expected(rows))

    def test_all_shapes_twenty_in_a_line(self):
        for rows, answer in told_in_long_lines(UNDER_CALL):
            with self.subTest(rows=rows):
                self.assertEqual(answer, expected(rows))

    def test_of_a_single_square_itself_alone(self):
        self.assertEqual(answers(UNDER_CALL), [2, 1, 1])
        self.assertEqual(told(bar(1, 1), UNDER_CALL), [[1], [1, 1]])
        self.assertEqual(under(1), [1, 1])

    def test_a_single_row_and_a_single_column(self):
        for squares in range(1, 7):
            self.assertEqual(under(squares), [squares, 1])
        for rows in range(1, 6):
            self.assertEqual(under(*[1] * rows), [rows, 1])

    def test_small_shapes_reckoned_by_hand(self):
        # 1; 2; 1, 1; 2, 1: the first and the last of them are lost.
        self.assertEqual(under(2, 1), [4, 2])
        self.assertEqual(under(2, 2), [5, 2])
        # Those, and 3; 3, 1; 3, 2, of which the last is lost.
        self.assertEqual(under(3, 2), [8, 3])

    def test_whole_bars(self):
        # As many as there are ways from one corner to the other along the squares' sides, without one.
        for (r, c), shapes in {(2, 6): 27, (3, 3): 19, (5, 5): 251, (5, 6): 461}.items():
            with self.subTest(r=r, c=c):
                self.assertEqual(told(bar(r, c), UNDER_CALL)[1][0], shapes)
        self.assertEqual(told(bar(5, 6), UNDER_CALL), [[30], [461, 35]])

    def test_behind_bites(self):
        self.assertEqual(
            told(bar(2, 3), UNDER_CALL, bite(2, 3), UNDER_CALL, bite(2, 1), UNDER_CALL, BACK_CALL, UNDER_CALL),
            [[6], [9, 3], [1], [8, 3], [2], [3, 1], [5], [8, 3]])

    def test_nothing_is_left(self):
        self.assertEqual(answers(line(bite(1, 1), UNDER_CALL)), [1, 1, 1, -6])
        self.assertEqual(
            told(bar(3, 4), bite(2, 2), bite(1, 1), UNDER_CALL, SHOWS_CALL, BACK_CALL, UNDER_CALL, SHOWS_CALL),
            [[12], [6], [6], [-6], [0, 2], [6], [12, 3], [3, 4, 1, 1, 1]])

    def test_nothing_changes(self):
        self.assertEqual(
            told(shape(3, 2), bite(2, 2), UNDER_CALL, UNDER_CALL, SHOWS_CALL, BACK_CALL, SHOWS_CALL, BACK_CALL),
            [[5], [1], [6, 2], [6, 2], [2, 3, 1, 1], [5], [2, 3, 2, 0], [-9]])


if __name__ == "__main__":
    unittest.main()
