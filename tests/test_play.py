"""Promise 2 and the words: the bite that play makes."""

import unittest

from bittenbar.bar import answers
from plainbar import (BACK_CALL, GOOD_CALL, LONG_CALL, PLAY_CALL, SHOWS_CALL, WON_CALL, after_bite, all_shapes, bar,
                      bite, how_long, is_won, line, played_bite, rows_of, shape, squares_of, told, told_in_long_lines)


def play(*rows):
    return told(shape(*rows), PLAY_CALL)[1]


class Play(unittest.TestCase):
    def test_all_shapes_each_in_a_line_of_its_own(self):
        for rows in all_shapes():
            square = played_bite(squares_of(rows))
            left = rows_of(after_bite(squares_of(rows), *square))
            with self.subTest(rows=rows):
                self.assertEqual(
                    told(shape(*rows), PLAY_CALL, SHOWS_CALL, BACK_CALL, SHOWS_CALL, BACK_CALL),
                    [[sum(rows)], list(square), [len(left), *left, 1], [sum(rows)], [len(rows), *rows, 0], [-9]])

    def test_all_shapes_twenty_in_a_line(self):
        for rows, answer in told_in_long_lines(PLAY_CALL):
            with self.subTest(rows=rows):
                self.assertEqual(answer, list(played_bite(squares_of(rows))))

    def test_the_first_of_several_good_bites(self):
        # Behind each good bite there are as many bites yet.
        self.assertEqual(told(shape(3, 2, 1), GOOD_CALL, PLAY_CALL), [[6], [3, 1, 3, 2, 2, 3, 1], [1, 3]])
        self.assertEqual(told(shape(4, 3, 2), GOOD_CALL, PLAY_CALL), [[9], [2, 2, 3, 3, 1], [2, 3]])
        self.assertEqual(told(shape(5, 4, 4, 4, 4), GOOD_CALL, PLAY_CALL), [[21], [2, 2, 2, 3, 1], [2, 2]])

    def test_the_good_bite_by_which_it_is_over_soonest(self):
        # It isn't the first good one: behind that there are more bites yet.
        self.assertEqual(told(shape(3, 2, 2, 1), GOOD_CALL, PLAY_CALL), [[8], [2, 1, 3, 3, 1], [3, 1]])
        self.assertEqual(told(shape(5, 3, 3, 2, 2), GOOD_CALL, PLAY_CALL), [[15], [3, 1, 4, 2, 2, 5, 1], [2, 2]])
        # Nor is it the last.
        self.assertEqual(told(shape(4, 3, 1), GOOD_CALL, PLAY_CALL), [[8], [2, 1, 3, 3, 1], [1, 3]])
        # The first of two that are even, behind one that takes longer.
        self.assertEqual(told(shape(5, 4, 2, 2, 2), GOOD_CALL, PLAY_CALL), [[15], [3, 1, 5, 2, 2, 3, 1], [2, 2]])

    def test_of_a_lost_shape_the_first_bite_by_which_it_is_over_latest(self):
        for rows, square in [((2, 1), [1, 2]), ((3, 2), [1, 3]), ((2, 2, 1), [2, 2]), ((3, 1, 1), [1, 3]),
                             ((4, 2, 2), [1, 3]), ((5, 3, 3, 2), [2, 3]), ((6, 4, 4, 3, 3), [3, 4]),
                             ((6, 6, 6, 5, 2), [3, 6])]:
            with self.subTest(rows=rows):
                self.assertEqual(play(*rows), square)

    def test_of_a_single_square_the_bitter_bite(self):
        self.assertEqual(answers(PLAY_CALL), [2, 1, 1])
        self.assertEqual(told(PLAY_CALL, SHOWS_CALL, PLAY_CALL, WON_CALL, bite(1, 1), BACK_CALL, SHOWS_CALL),
                         [[1, 1], [0, 1], [-6], [-6], [-6], [1], [1, 1, 0]])

    def test_the_bitter_bite_only_when_nothing_else_is_left(self):
        for rows in all_shapes():
            with self.subTest(rows=rows):
                self.assertEqual(play(*rows) == [1, 1], rows == (1,))

    def test_it_counts_as_a_bite(self):
        self.assertEqual(
            told(bar(3, 4), bite(3, 4), PLAY_CALL, SHOWS_CALL, bite(1, 4), SHOWS_CALL,
                 BACK_CALL, BACK_CALL, SHOWS_CALL, BACK_CALL, BACK_CALL),
            [[12], [1], [2, 3], [3, 4, 2, 2, 2], [1], [3, 3, 2, 2, 3],
             [8], [11], [3, 4, 4, 3, 1], [12], [-9]])

    def test_behind_it_the_other_one_is_at_turn(self):
        for rows in all_shapes():
            if len(rows) > 1 or rows[0] > 1:
                behind = told(shape(*rows), WON_CALL, LONG_CALL, PLAY_CALL, WON_CALL, LONG_CALL)
                with self.subTest(rows=rows):
                    self.assertEqual(behind[4], [1 - behind[1][0]])
                    self.assertEqual(behind[5], [behind[2][0] - 1])

    def test_the_same_again_when_it_is_undone(self):
        self.assertEqual(told(shape(4, 3, 1), PLAY_CALL, BACK_CALL, PLAY_CALL, BACK_CALL, SHOWS_CALL),
                         [[8], [1, 3], [8], [1, 3], [8], [3, 4, 3, 1, 0]])

    def test_a_bar_to_its_end_takes_as_many_bites_as_long_tells(self):
        for rows in all_shapes():
            bites = how_long(squares_of(rows))
            given = told(shape(*rows), LONG_CALL, *[PLAY_CALL] * bites, SHOWS_CALL, PLAY_CALL, BACK_CALL, SHOWS_CALL)
            with self.subTest(rows=rows):
                self.assertEqual(given[1], [bites])
                self.assertEqual(given[1 + bites:], [[1, 1], [0, bites], [-6], [1], [1, 1, bites - 1]])

    def test_who_plays_a_won_shape_takes_good_bites_only(self):
        squares = squares_of((6, 6, 6, 6, 6))
        calls = [call for times in range(8) for call in (GOOD_CALL, PLAY_CALL, PLAY_CALL)]
        given = told(bar(5, 6), *calls, SHOWS_CALL)
        self.assertEqual(given[-1], [0, 16])
        for good, winning, losing in zip(given[1:-1:3], given[2:-1:3], given[3:-1:3]):
            self.assertTrue(is_won(squares))
            self.assertIn(winning, [good[at:at + 2] for at in range(1, len(good), 2)])
            squares = after_bite(after_bite(squares, *winning), *losing)
        self.assertFalse(squares)

    def test_nothing_is_left(self):
        self.assertEqual(answers(line(bite(1, 1), PLAY_CALL)), [1, 1, 1, -6])
        self.assertEqual(
            told(bar(3, 4), bite(2, 2), bite(1, 1), PLAY_CALL, PLAY_CALL, SHOWS_CALL, BACK_CALL, SHOWS_CALL, BACK_CALL,
                 BACK_CALL),
            [[12], [6], [6], [-6], [-6], [0, 2], [6], [3, 4, 1, 1, 1], [12], [-9]])


if __name__ == "__main__":
    unittest.main()
