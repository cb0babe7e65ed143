"""Promise 3: the call lost, and what it refuses."""

import unittest

from bittenbar.bar import answers
from plainbar import (BACK_CALL, LARGEST, SHOWS_CALL, WON_CALL, all_shapes, bar, bite, line, lost, lost_of, shape, told)

REFUSED = [0, 31, 32, 36, 60, LARGEST - 1, LARGEST]


def expected(count):
    shapes = lost_of(count)
    last = shapes[-1] if shapes else ()
    return [len(shapes), len(last), *last]


class Lost(unittest.TestCase):
    def test_every_number_in_a_line_of_its_own(self):
        for count in range(1, 31):
            with self.subTest(count=count):
                self.assertEqual(told(lost(count)), [expected(count)])

    def test_all_numbers_in_one_line(self):
        # Both ways round: what was found out for one number must not mislead on the next.
        for counts in [range(1, 31), range(30, 0, -1)]:
            self.assertEqual(told(*[lost(count) for count in counts]), [expected(count) for count in counts])

    def test_against_the_program_s_own_word_on_each_shape(self):
        counted = dict.fromkeys(range(1, 31), 0)
        for rows in all_shapes():
            if told(shape(*rows), WON_CALL)[1] == [0]:
                counted[sum(rows)] += 1
        self.assertEqual([told(lost(count))[0][0] for count in range(1, 31)], list(counted.values()))
        self.assertEqual(sum(counted.values()), 35)

    def test_small_numbers_reckoned_by_hand(self):
        self.assertEqual(told(lost(1)), [[1, 1, 1]])
        # Of two squares there are 2 and 1, 1; both are won.
        self.assertEqual(told(lost(2)), [[0, 0]])
        self.assertEqual(told(lost(3)), [[1, 2, 2, 1]])
        # 2, 2, 1; 3, 1, 1; 3, 2.
        self.assertEqual(told(lost(5)), [[3, 2, 3, 2]])

    def test_none_are_lost(self):
        for count in [2, 4, 6, 15, 16, 17, 19, 22, 24, 26, 27, 28, 29, 30]:
            with self.subTest(count=count):
                self.assertEqual(answers(lost(count)), [2, 0, 0])

    def test_the_last_of_several(self):
        # By row 1: 3, 3, 1, 1; 4, 2, 2. The one with more rows comes first.
        self.assertEqual(told(lost(8)), [[2, 3, 4, 2, 2]])
        # By row 2: 6, 2, 2, 1, 1; 6, 2, 2, 2; 6, 3, 1, 1, 1; 6, 3, 3; 6, 4, 2.
        self.assertEqual(told(lost(12)), [[5, 3, 6, 4, 2]])
        # 3, 3, 3, 2, 2; 4, 4, 3, 1, 1; 5, 3, 3, 2; 5, 5, 3.
        self.assertEqual(told(lost(13)), [[4, 3, 5, 5, 3]])
        # By row 3: 6, 6, 3, 3, 3; 6, 6, 4, 3, 2.
        self.assertEqual(told(lost(21)), [[2, 5, 6, 6, 4, 3, 2]])

    def test_shapes_beyond_five_rows_or_six_squares_are_not_counted(self):
        # 6, 1, 1, 1, 1, 1 and 2, 2, 2, 2, 2, 1 are lost, too, but have six rows; 7, 6 is, but its row 1 is too long.
        self.assertEqual(told(lost(11)), [[1, 2, 6, 5]])
        self.assertEqual(told(lost(13))[0][0], 4)

    def test_numbers_that_are_refused(self):
        for count in REFUSED:
            with self.subTest(count=count):
                self.assertEqual(answers(lost(count)), [1, -1])

    def test_the_edges_that_are_allowed(self):
        self.assertEqual(answers(lost(1)), [3, 1, 1, 1])
        self.assertEqual(answers(lost(30)), [2, 0, 0])

    def test_behind_a_refusal_all_is_as_it_was(self):
        for count in REFUSED:
            with self.subTest(count=count):
                self.assertEqual(
                    told(bar(3, 4), bite(3, 2), lost(count), SHOWS_CALL, BACK_CALL, SHOWS_CALL, lost(count), BACK_CALL),
                    [[12], [3], [-1], [3, 4, 4, 1, 1], [12], [3, 4, 4, 4, 0], [-1], [-9]])

    def test_whatever_bar_lies_there(self):
        laid = [bar(1, 1), bar(1, 6), bar(5, 1), bar(5, 6), shape(2, 1), shape(6, 6, 6, 5, 2), shape(3, 2, 1)]
        for count in [*range(1, 31), *REFUSED]:
            alone = told(lost(count))[0]
            for call in laid:
                with self.subTest(count=count, call=call):
                    self.assertEqual(told(call, lost(count), WON_CALL, lost(count))[1::2], [alone, alone])

    def test_when_nothing_is_left(self):
        for count in [*range(1, 31), *REFUSED]:
            alone = told(lost(count))[0]
            with self.subTest(count=count):
                self.assertEqual(told(bar(2, 3), bite(1, 1), lost(count), SHOWS_CALL, BACK_CALL, SHOWS_CALL),
                                 [[6], [6], alone, [0, 1], [6], [2, 3, 3, 0]])

    def test_nothing_changes(self):
        for count in [1, 2, 8, 25, 30]:
            with self.subTest(count=count):
                given = told(bar(3, 4), bite(3, 2), WON_CALL, lost(count), SHOWS_CALL, WON_CALL, BACK_CALL, BACK_CALL)
                self.assertEqual(given[4:], [[3, 4, 4, 1, 1], given[2], [12], [-9]])

    def test_the_calls_behind_it_are_read(self):
        # Its number is no call, though one may look like it.
        self.assertEqual(answers(line(lost(4), lost(3), lost(10), SHOWS_CALL)),
                         [2, 0, 0, 4, 1, 2, 2, 1, 5, 2, 3, 5, 3, 2, 3, 1, 1, 0])


if __name__ == "__main__":
    unittest.main()
