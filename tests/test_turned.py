"""Promise 2 and the words: the shape with rows and squares exchanged."""

import unittest

from bittenbar.bar import answers
from plainbar import (BACK_CALL, GOOD_CALL, LONG_CALL, PLAY_CALL, SHOWS_CALL, TURNED_CALL, UNDER_CALL, WON_CALL,
                      all_shapes, bar, bite, exchanged, line, rows_of, shape, squares_of, told)


def turned(*rows):
    return told(shape(*rows), TURNED_CALL)[1]


class Turned(unittest.TestCase):
    def test_all_shapes(self):
        for rows in all_shapes():
            other = rows_of(exchanged(squares_of(rows)))
            with self.subTest(rows=rows):
                self.assertEqual(turned(*rows), [len(other), *other])

    def test_turned_twice_it_is_the_same(self):
        for rows in all_shapes(5, 5):
            with self.subTest(rows=rows):
                self.assertEqual(turned(*turned(*rows)[1:]), [len(rows), *rows])

    def test_a_single_square(self):
        self.assertEqual(answers(TURNED_CALL), [2, 1, 1])
        self.assertEqual(told(bar(1, 1), TURNED_CALL), [[1], [1, 1]])

    def test_one_row_and_one_column(self):
        for squares in range(1, 7):
            with self.subTest(squares=squares):
                self.assertEqual(turned(squares), [squares] + [1] * squares)
        for rows in range(1, 6):
            with self.subTest(rows=rows):
                self.assertEqual(turned(*[1] * rows), [1, rows])

    def test_whole_bars(self):
        for r in range(1, 6):
            for c in range(1, 7):
                with self.subTest(r=r, c=c):
                    self.assertEqual(told(bar(r, c), TURNED_CALL), [[r * c], [c] + [r] * c])

    def test_some_by_hand(self):
        self.assertEqual(turned(4, 2, 1), [4, 3, 2, 1, 1])
        self.assertEqual(turned(3, 3, 1), [3, 3, 2, 2])
        # Six rows are told, though no shape of six is laid down.
        self.assertEqual(turned(6, 5, 2, 2, 1), [6, 5, 4, 2, 2, 2, 1])

    def test_behind_bites(self):
        self.assertEqual(told(bar(3, 4), bite(2, 3), TURNED_CALL, bite(2, 1), TURNED_CALL, BACK_CALL, TURNED_CALL),
                         [[12], [4], [4, 3, 3, 1, 1], [4], [4, 1, 1, 1, 1], [8], [4, 3, 3, 1, 1]])

    def test_nothing_changes(self):
        others = [SHOWS_CALL, WON_CALL, GOOD_CALL, LONG_CALL, UNDER_CALL, PLAY_CALL, SHOWS_CALL, BACK_CALL, BACK_CALL,
                  SHOWS_CALL, bite(1, 3), BACK_CALL, BACK_CALL]
        for rows in [(4, 2, 1), (6,), (1, 1, 1, 1, 1), (6, 5, 2, 2, 1), (1,), (2, 1)]:
            begun = [shape(6, 6, 6, 6, 6), shape(*rows), bite(len(rows), rows[-1]), BACK_CALL, bite(1, 1), BACK_CALL]
            turning = [call for other in others for call in (TURNED_CALL, other)]
            with self.subTest(rows=rows):
                self.assertEqual(told(*begun, *turning)[7::2], told(*begun, *others)[6:])

    def test_nothing_changes_behind_a_bite(self):
        self.assertEqual(
            told(bar(2, 4), bite(2, 3), TURNED_CALL, TURNED_CALL, SHOWS_CALL, bite(2, 3), bite(1, 4), BACK_CALL,
                 TURNED_CALL, BACK_CALL, BACK_CALL),
            [[8], [2], [4, 2, 2, 1, 1], [4, 2, 2, 1, 1], [2, 4, 2, 1], [-2], [1], [6], [4, 2, 2, 1, 1], [8], [-9]])

    def test_nothing_is_left(self):
        self.assertEqual(answers(line(bite(1, 1), TURNED_CALL)), [1, 1, 1, -6])
        self.assertEqual(
            told(bar(3, 4), bite(2, 2), bite(1, 1), TURNED_CALL, SHOWS_CALL, BACK_CALL, TURNED_CALL, SHOWS_CALL),
            [[12], [6], [6], [-6], [0, 2], [6], [4, 3, 1, 1, 1], [3, 4, 1, 1, 1]])


if __name__ == "__main__":
    unittest.main()
