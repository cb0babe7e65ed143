"""Promise 2: the calls bite, back and shows, and what they refuse."""

import unittest

from bittenbar.bar import answers
from plainbar import (BACK_CALL, LARGEST, SHOWS_CALL, WON_CALL, after_bite, all_shapes, bar, bite, line, rows_of,
                      shape, squares_of, told)


class Bites(unittest.TestCase):
    def test_every_bite_at_every_shape(self):
        for rows in all_shapes():
            squares = squares_of(rows)
            for i, j in squares:
                left = rows_of(after_bite(squares, i, j))
                with self.subTest(rows=rows, i=i, j=j):
                    self.assertEqual(
                        told(shape(*rows), bite(i, j), SHOWS_CALL, BACK_CALL, SHOWS_CALL),
                        [[sum(rows)], [sum(rows) - sum(left)], [len(left), *left, 1],
                         [sum(rows)], [len(rows), *rows, 0]])

    def test_squares_come_off_in_the_row_and_in_all_later_ones(self):
        self.assertEqual(told(bar(4, 5), bite(2, 3), SHOWS_CALL), [[20], [9], [4, 5, 2, 2, 2, 1]])
        self.assertEqual(told(shape(6, 5, 2, 1), bite(2, 3), SHOWS_CALL), [[14], [3], [4, 6, 2, 2, 1, 1]])

    def test_rows_without_a_square_are_not_told(self):
        self.assertEqual(told(bar(4, 5), bite(3, 1), SHOWS_CALL), [[20], [10], [2, 5, 5, 1]])
        self.assertEqual(told(bar(4, 5), bite(2, 1), SHOWS_CALL, bite(2, 1)), [[20], [15], [1, 5, 1], [-2]])

    def test_the_bitter_square(self):
        self.assertEqual(told(bite(1, 1), SHOWS_CALL), [[1], [0, 1]])
        self.assertEqual(told(bar(5, 6), bite(1, 1), SHOWS_CALL), [[30], [30], [0, 1]])
        self.assertEqual(told(shape(3, 1), bite(1, 2), bite(1, 1), SHOWS_CALL), [[4], [2], [2], [0, 2]])

    def test_bites_one_behind_another(self):
        self.assertEqual(
            told(bar(3, 4), bite(2, 3), SHOWS_CALL, bite(1, 4), SHOWS_CALL, bite(3, 1), SHOWS_CALL),
            [[12], [4], [3, 4, 2, 2, 1], [1], [3, 3, 2, 2, 2], [2], [2, 3, 2, 3]])


class RefusedBites(unittest.TestCase):
    NOWHERE = [(0, 1), (1, 0), (0, 0), (4, 1), (1, 5), (2, 4), (3, 2), (3, 4), (4, 2), (5, 1), (6, 7),
               (LARGEST, 1), (1, LARGEST), (LARGEST, LARGEST), (0, LARGEST), (LARGEST, 0), (2, 0), (0, 2)]

    def test_there_is_no_such_square(self):
        for i, j in self.NOWHERE:
            with self.subTest(i=i, j=j):
                self.assertEqual(told(shape(4, 3, 1), bite(i, j)), [[8], [-2]])

    def test_at_the_beginning_there_is_one_square(self):
        for i, j in [(1, 2), (2, 1), (0, 1), (1, 0), (2, 2), (LARGEST, LARGEST)]:
            with self.subTest(i=i, j=j):
                self.assertEqual(told(bite(i, j), SHOWS_CALL), [[-2], [1, 1, 0]])

    def test_a_square_that_is_bitten_off(self):
        self.assertEqual(told(bar(3, 3), bite(2, 2), bite(2, 2), bite(3, 3), bite(2, 3), bite(3, 2), SHOWS_CALL),
                         [[9], [4], [-2], [-2], [-2], [-2], [3, 3, 1, 1, 1]])

    def test_behind_a_refusal_all_is_as_it_was(self):
        for i, j in self.NOWHERE:
            with self.subTest(i=i, j=j):
                self.assertEqual(
                    told(bar(3, 4), bite(3, 2), bite(2, 4), bite(i, j), SHOWS_CALL, BACK_CALL, SHOWS_CALL,
                         BACK_CALL, BACK_CALL),
                    [[12], [3], [1], [-2], [3, 4, 3, 1, 2], [9], [3, 4, 4, 1, 1], [12], [-9]])

    def test_nothing_is_left_whatever_square_is_named(self):
        for i, j in [(1, 1), (1, 2), (2, 1), (3, 4), *self.NOWHERE]:
            with self.subTest(i=i, j=j):
                self.assertEqual(
                    told(bar(3, 4), bite(1, 1), bite(i, j), SHOWS_CALL, BACK_CALL, SHOWS_CALL),
                    [[12], [12], [-6], [0, 1], [12], [3, 4, 4, 4, 0]])


class Back(unittest.TestCase):
    def test_nobody_has_bitten(self):
        self.assertEqual(told(BACK_CALL, SHOWS_CALL), [[-9], [1, 1, 0]])
        self.assertEqual(told(bar(2, 3), BACK_CALL, SHOWS_CALL), [[6], [-9], [2, 3, 3, 0]])
        self.assertEqual(told(shape(4, 1), BACK_CALL, SHOWS_CALL), [[5], [-9], [2, 4, 1, 0]])

    def test_all_bites_are_undone(self):
        self.assertEqual(told(bar(2, 3), bite(2, 2), BACK_CALL, BACK_CALL, BACK_CALL, SHOWS_CALL),
                         [[6], [2], [6], [-9], [-9], [2, 3, 3, 0]])

    def test_several_in_a_row(self):
        self.assertEqual(
            told(shape(5, 4, 4, 2), bite(4, 2), bite(2, 3), bite(1, 2), BACK_CALL, SHOWS_CALL, BACK_CALL, SHOWS_CALL,
                 BACK_CALL, SHOWS_CALL, BACK_CALL),
            [[15], [1], [4], [6], [10], [4, 5, 2, 2, 1, 2], [14], [4, 5, 4, 4, 1, 1],
             [15], [4, 5, 4, 4, 2, 0], [-9]])

    def test_the_bite_at_the_bitter_square(self):
        self.assertEqual(told(bite(1, 1), BACK_CALL, SHOWS_CALL, BACK_CALL), [[1], [1], [1, 1, 0], [-9]])
        self.assertEqual(
            told(bar(2, 2), bite(2, 1), bite(1, 1), SHOWS_CALL, BACK_CALL, SHOWS_CALL, WON_CALL),
            [[4], [2], [2], [0, 2], [2], [1, 2, 1], [1]])

    def test_bites_behind_back(self):
        self.assertEqual(
            told(bar(3, 3), bite(2, 2), BACK_CALL, bite(1, 3), BACK_CALL, bite(3, 1), SHOWS_CALL, BACK_CALL, BACK_CALL),
            [[9], [4], [9], [3], [9], [3], [2, 3, 3, 1], [9], [-9]])


class Shows(unittest.TestCase):
    def test_at_the_beginning(self):
        self.assertEqual(answers(SHOWS_CALL), [3, 1, 1, 0])

    def test_nothing_changes(self):
        self.assertEqual(told(bar(2, 2), bite(2, 2), SHOWS_CALL, SHOWS_CALL, BACK_CALL),
                         [[4], [1], [2, 2, 1, 1], [2, 2, 1, 1], [4]])

    def test_when_nothing_is_left(self):
        self.assertEqual(answers(line(bite(1, 1), SHOWS_CALL)), [1, 1, 2, 0, 1])

    def test_many_bites(self):
        bites = [bite(i, j) for i in range(5, 0, -1) for j in range(6, 0, -1)]
        self.assertEqual(told(bar(5, 6), *bites, SHOWS_CALL), [[30], *[[1]] * 30, [0, 30]])


if __name__ == "__main__":
    unittest.main()
