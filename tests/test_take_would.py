"""Points 2 and 3."""

import unittest

from tests.support import LOOK, PIECES, VALUES, ask, begin, fewest, last, take, ways, would

#  1 2 3
#  4 5 6
#  7 8 9
NINE = begin(3, [1, 2, 3, 4, 5, 6, 7, 8, 9])


class TakeAndWould(unittest.TestCase):
    """What both answer alike: would tells the pieces besides."""

    def check(self, calls, stamps, answer):
        with self.subTest(calls=calls, stamps=stamps):
            taken = answer[:2] if answer[0] >= 0 else answer
            self.assertEqual(last(NINE, *calls, would(*stamps)), answer)
            self.assertEqual(last(NINE, *calls, take(*stamps)), taken)

    def test_a_single_stamp(self):
        self.check([], [0], [1, 2, 1])
        self.check([], [1], [2, 3, 1])
        self.check([], [4], [5, 4, 1])
        self.check([], [8], [9, 2, 1])

    def test_a_block(self):
        self.check([], [0, 1], [3, 3, 1])
        self.check([], [3, 4, 5], [15, 6, 2])
        self.check([], [1, 4, 7], [15, 6, 2])
        self.check([], [0, 1, 3, 4], [12, 4, 1])
        self.check([], [1, 3, 4, 5, 7], [25, 8, 4])

    def test_a_hole_within_a_block(self):
        self.check([], [0, 1, 2, 3, 5, 6, 7, 8], [40, 4, 1])

    def test_all_stamps_of_the_sheet(self):
        self.check([], range(9), [45, 0, 0])

    def test_all_stamps_that_are_left(self):
        self.check([take(0)], range(1, 9), [44, 0, 0])

    def test_a_full_sheet_of_12_places(self):
        for columns in (1, 2, 3, 4, 6):
            sheet = begin(columns, [9] * 12)
            self.assertEqual(ask(sheet, would(*range(12)), take(*range(12)), PIECES), [[0], [108, 0, 0], [108, 0], [0]])

    def test_places_in_any_order(self):
        self.check([], [4, 0, 3, 1], [12, 4, 1])
        self.check([], [2, 0, 1], [6, 3, 1])
        self.check([], [8, 2, 5], [18, 3, 1])
        self.check([], [7, 1, 4], [15, 6, 2])

    def test_a_place_that_is_not_there(self):
        for stamps in ([9], [20], [8, 9], [12], [0, 20]):
            self.check([], stamps, [-2])

    def test_a_place_that_is_taken_already(self):
        self.check([take(4)], [4], [-2])
        self.check([take(4)], [3, 4, 5], [-2])
        self.check([take(4)], [3], [4, 2, 1])

    def test_a_place_that_is_told_twice(self):
        for stamps in ([0, 0], [0, 1, 0], [4, 3, 3], [8] * 14, list(range(9)) + [0]):
            self.check([], stamps, [-2])

    def test_more_stamps_than_places(self):
        self.check([], range(14), [-2])

    def test_stamps_that_do_not_hang_together(self):
        for stamps in ([0, 2], [0, 4], [0, 8], [0, 1, 7, 8], [1, 3, 5, 7], [0, 1, 2, 6, 7, 8]):
            self.check([], stamps, [-7])

    def test_stamps_that_hung_together_through_one_that_is_taken(self):
        self.check([take(1)], [0, 2], [-7])
        self.check([take(1)], [0, 2, 3, 4, 5], [19, 3, 1])

    def test_no_stamp_is_no_block(self):
        self.check([], [], [-7])
        self.check([take(*range(9))], [], [-7])

    def test_where_both_are_due_the_first_told_counts(self):
        self.check([], [0, 20], [-2])
        self.check([], [0, 2, 2], [-2])
        self.check([], [0, 8, 0], [-2])
        self.check([take(1)], [0, 1, 2], [-2])
        self.check([take(2)], [0, 2], [-2])

    def test_the_end_of_a_row_and_the_beginning_of_the_next_are_no_neighbours(self):
        self.check([], [2, 3], [-7])
        self.check([], [5, 6], [-7])
        self.check([], [2], [3, 2, 1])
        self.check([], [3], [4, 3, 1])

    def test_tears_count_only_neighbours_that_are_there(self):
        self.check([take(1)], [4], [5, 3, 1])
        self.check([take(1), take(3)], [4], [5, 2, 2])
        self.check([take(1), take(3)], [0], [1, 0, 1])
        self.check([take(1), take(3), take(5), take(7)], [4], [5, 0, 4])
        self.check([take(0, 1, 2)], [3, 4, 5], [15, 3, 1])

    def test_a_neighbour_of_two_stamps_is_torn_from_each(self):
        self.check([], [0, 3, 4], [10, 5, 1])
        self.check([], [1, 3, 4], [11, 6, 2])

    def test_one_place(self):
        self.assertEqual(ask(begin(1, [9]), would(0), take(0), take(0), PIECES), [[0], [9, 0, 0], [9, 0], [-2], [0]])

    def test_one_row_and_one_column(self):
        for columns in (1, 6):
            sheet = begin(columns, [1, 2, 3, 4, 5, 6])
            found = ask(sheet, would(2, 3), would(0), would(5), would(0, 5), take(1), would(0), would(0, 2))
            self.assertEqual(found[1:], [[7, 2, 2], [1, 1, 1], [6, 1, 1], [-7], [2, 2], [1, 0, 1], [-7]])


class WhatIsChanged(unittest.TestCase):
    LOOKS = (PIECES, fewest(9), ways(9), would(4), would(0), VALUES, LOOK)

    def test_taken_stamps_are_gone(self):
        found = ask(NINE, take(4, 5), would(4), would(5), PIECES, ways(5), take(3))
        self.assertEqual(found[1:], [[11, 5], [-2], [-2], [1, 7, 0, 1, 2, 3, 6, 7, 8], [2], [4, 2]])

    def test_a_refused_take_changes_nothing(self):
        before = ask(NINE, take(2), *self.LOOKS)[2:]
        for stamps in ([9], [0, 9], [2], [1, 2], [0, 0], [0, 1, 1], [0, 8], []):
            with self.subTest(stamps=stamps):
                self.assertEqual(ask(NINE, take(2), take(*stamps), *self.LOOKS)[3:], before)

    def test_would_changes_nothing(self):
        before = ask(NINE, take(2), *self.LOOKS)[2:]
        for stamps in ([0], [4], [0, 1], [0, 1, 3, 4, 5, 6, 7, 8], [2], [0, 8], []):
            with self.subTest(stamps=stamps):
                self.assertEqual(ask(NINE, take(2), would(*stamps), *self.LOOKS)[3:], before)

    def test_would_tells_what_take_and_pieces_then_tell(self):
        for stamps in ([1], [4], [3, 4, 5], [1, 3, 4], [1, 3, 4, 5, 7], range(9)):
            with self.subTest(stamps=stamps):
                found = ask(NINE, would(*stamps), take(*stamps), PIECES)
                self.assertEqual(found[1], found[2] + found[3][:1])


if __name__ == "__main__":
    unittest.main()
