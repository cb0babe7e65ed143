"""Promise 1: the calls bar and shape, and what they refuse."""

import unittest

from bittenbar.bar import answers
from plainbar import BACK_CALL, LARGEST, SHOWS_CALL, all_shapes, bar, bite, shape, told


class WholeBars(unittest.TestCase):
    def test_every_size_that_is_allowed(self):
        for r in range(1, 6):
            for c in range(1, 7):
                with self.subTest(r=r, c=c):
                    self.assertEqual(told(bar(r, c), SHOWS_CALL), [[r * c], [r] + [c] * r + [0]])

    def test_sizes_that_are_refused(self):
        for r, c in [(0, 1), (0, 6), (6, 1), (6, 6), (7, 3), (LARGEST, 1), (LARGEST, 6),
                     (1, 0), (5, 0), (1, 7), (5, 7), (3, 8), (1, LARGEST), (5, LARGEST),
                     (0, 0), (6, 7), (0, 7), (6, 0), (LARGEST, LARGEST)]:
            with self.subTest(r=r, c=c):
                self.assertEqual(answers(bar(r, c)), [1, -1])

    def test_rows_and_squares_are_not_exchanged(self):
        self.assertEqual(told(bar(2, 6), SHOWS_CALL), [[12], [2, 6, 6, 0]])
        self.assertEqual(told(bar(5, 1), SHOWS_CALL), [[5], [5, 1, 1, 1, 1, 1, 0]])


class Shapes(unittest.TestCase):
    def test_every_shape_that_is_allowed(self):
        for rows in all_shapes():
            with self.subTest(rows=rows):
                self.assertEqual(told(shape(*rows), SHOWS_CALL), [[sum(rows)], [len(rows), *rows, 0]])

    def test_numbers_of_rows(self):
        self.assertEqual(answers(shape()), [1, -1])
        self.assertEqual(answers(shape(6, 5, 4, 3, 2)), [1, 20])
        self.assertEqual(answers(shape(6, 5, 4, 3, 2, 1)), [1, -1])
        self.assertEqual(answers(shape(*[1] * 6)), [1, -1])
        self.assertEqual(answers(shape(*[1] * 40)), [1, -1])
        self.assertEqual(answers(shape(*[LARGEST] * 40)), [1, -1])

    def test_numbers_of_squares(self):
        self.assertEqual(answers(shape(6)), [1, 6])
        for rows in [(0,), (7,), (LARGEST,), (3, 0), (3, 0, 0), (7, 6), (7, 7, 7), (6, 6, 6, 6, 0), (LARGEST, 1)]:
            with self.subTest(rows=rows):
                self.assertEqual(answers(shape(*rows)), [1, -1])

    def test_a_row_longer_than_the_one_before_it(self):
        for rows in [(1, 2), (5, 6), (3, 2, 3), (6, 6, 6, 5, 6), (2, 2, 3), (4, 1, 2), (3, LARGEST)]:
            with self.subTest(rows=rows):
                self.assertEqual(answers(shape(*rows)), [1, -1])

    def test_the_calls_behind_a_refused_shape_are_read(self):
        self.assertEqual(told(shape(), shape(3, 3), shape(*[4] * 40), SHOWS_CALL),
                         [[-1], [6], [-1], [2, 3, 3, 0]])


class BehindBites(unittest.TestCase):
    REFUSED = [bar(0, 3), bar(6, 3), bar(3, 0), bar(3, 7), bar(LARGEST, LARGEST),
               shape(), shape(2, 3), shape(7), shape(2, 0), shape(*[1] * 6), shape(*[2] * 40)]

    def test_nobody_has_bitten_behind_bar_and_shape(self):
        for laid, rows in [(bar(2, 3), [3, 3]), (shape(4, 2, 1), [4, 2, 1])]:
            with self.subTest(laid=laid):
                self.assertEqual(
                    told(bar(3, 3), bite(3, 3), bite(2, 2), laid, BACK_CALL, SHOWS_CALL),
                    [[9], [1], [3], [sum(rows)], [-9], [len(rows), *rows, 0]])

    def test_bar_and_shape_when_nothing_is_left(self):
        for laid, rows in [(bar(2, 3), [3, 3]), (shape(4, 2, 1), [4, 2, 1])]:
            with self.subTest(laid=laid):
                self.assertEqual(
                    told(bite(1, 1), laid, SHOWS_CALL, BACK_CALL),
                    [[1], [sum(rows)], [len(rows), *rows, 0], [-9]])

    def test_behind_a_refusal_all_is_as_it_was(self):
        for refused in self.REFUSED:
            with self.subTest(refused=refused):
                self.assertEqual(
                    told(shape(4, 3, 3), bite(3, 2), bite(1, 4), refused, SHOWS_CALL,
                         BACK_CALL, SHOWS_CALL, refused, BACK_CALL, BACK_CALL, refused, SHOWS_CALL),
                    [[10], [2], [1], [-1], [3, 3, 3, 1, 2],
                     [8], [3, 4, 3, 1, 1], [-1], [10], [-9], [-1], [3, 4, 3, 3, 0]])

    def test_a_refusal_at_the_beginning_and_when_nothing_is_left(self):
        for refused in self.REFUSED:
            with self.subTest(refused=refused):
                self.assertEqual(
                    told(refused, SHOWS_CALL, bite(1, 1), refused, SHOWS_CALL, BACK_CALL, SHOWS_CALL),
                    [[-1], [1, 1, 0], [1], [-1], [0, 1], [1], [1, 1, 0]])


if __name__ == "__main__":
    unittest.main()
