"""Promise 2 and the words: how long a shape is."""

import unittest

from bittenbar.bar import answers
from plainbar import (BACK_CALL, LONG_CALL, SHOWS_CALL, all_shapes, bar, bite, how_long, is_won, line, shape,
                      squares_of, told, told_in_long_lines)


def long(*rows):
    return told(shape(*rows), LONG_CALL)[1]


class Long(unittest.TestCase):
    def test_all_shapes_each_in_a_line_of_its_own(self):
        for rows in all_shapes():
            with self.subTest(rows=rows):
                self.assertEqual(long(*rows), [how_long(squares_of(rows))])

    def test_all_shapes_twenty_in_a_line(self):
        for rows, answer in told_in_long_lines(LONG_CALL):
            with self.subTest(rows=rows):
                self.assertEqual(answer, [how_long(squares_of(rows))])

    def test_of_a_single_square_the_bitter_bite_is_counted(self):
        self.assertEqual(answers(LONG_CALL), [1, 1])
        self.assertEqual(told(bar(1, 1), LONG_CALL), [[1], [1]])
        self.assertEqual(long(1), [1])

    def test_a_single_row_and_a_single_column(self):
        for squares in range(2, 7):
            self.assertEqual(long(squares), [2])
        for rows in range(2, 6):
            self.assertEqual(long(*[1] * rows), [2])

    def test_small_shapes_reckoned_by_hand(self):
        # 2, 1 is lost: one square is bitten off, then the other, then the bitter one.
        self.assertEqual(long(2, 1), [3])
        # 2, 2 is won by the bite that leaves 2, 1.
        self.assertEqual(long(2, 2), [4])
        # 3, 2 is lost; who loses holds out longest by leaving 2, 2 or 3, 1.
        self.assertEqual(long(3, 2), [5])
        self.assertEqual(long(3, 3), [6])

    def test_lost_shapes_of_two_rows_and_even_hooks(self):
        # In both the loser takes one square, and the winner takes the like one: two bites for each square more.
        for first in range(2, 7):
            with self.subTest(first=first):
                self.assertEqual(long(first, first - 1), [2 * first - 1])
        for arm in range(2, 6):
            with self.subTest(arm=arm):
                self.assertEqual(long(arm, *[1] * (arm - 1)), [2 * arm - 1])

    def test_the_winner_takes_the_good_bite_by_which_it_is_over_soonest(self):
        # A good bite at 1, 3 leaves 2, 2, 1 (5 bites), one at 3, 1 leaves 4, 3 (7 bites).
        self.assertEqual((long(2, 2, 1), long(4, 3), long(4, 3, 1)), ([5], [7], [6]))

    def test_the_loser_takes_the_bite_by_which_it_is_over_latest(self):
        # The loser might take the bitter square at once, or leave 1, 1, 1 or 3 (2 bites), 2, 1, 1 or 3, 1 (4 bites).
        self.assertEqual((long(1, 1, 1), long(3), long(3, 1), long(3, 1, 1)), ([2], [2], [4], [5]))

    def test_won_shapes_take_an_even_number_and_lost_ones_an_odd_one(self):
        for rows in all_shapes():
            with self.subTest(rows=rows):
                self.assertEqual(long(*rows)[0] % 2, 0 if is_won(squares_of(rows)) else 1)

    def test_nothing_is_left(self):
        self.assertEqual(answers(line(bite(1, 1), LONG_CALL)), [1, 1, 1, -6])
        self.assertEqual(
            told(bar(3, 4), bite(2, 2), bite(1, 1), LONG_CALL, SHOWS_CALL, BACK_CALL, LONG_CALL, SHOWS_CALL),
            [[12], [6], [6], [-6], [0, 2], [6], [6], [3, 4, 1, 1, 1]])

    def test_nothing_changes(self):
        self.assertEqual(
            told(shape(3, 2, 1), bite(3, 1), LONG_CALL, SHOWS_CALL, BACK_CALL, LONG_CALL, LONG_CALL, SHOWS_CALL,
                 BACK_CALL),
            [[6], [1], [5], [2, 3, 2, 1], [6], [6], [6], [3, 3, 2, 1, 0], [-9]])


if __name__ == "__main__":
    unittest.main()
