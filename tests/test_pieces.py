"""Point 4."""

import unittest

from tests.support import PIECES, ask, begin, last, take


class Pieces(unittest.TestCase):
    def test_a_whole_sheet_is_one_piece(self):
        for columns in (1, 2, 3, 4, 6):
            with self.subTest(columns=columns):
                self.assertEqual(last(begin(columns, [1] * 12), PIECES), [1, 12] + list(range(12)))

    def test_one_place(self):
        self.assertEqual(last(begin(1, [4]), PIECES), [1, 1, 0])

    def test_what_is_left_may_be_one_piece(self):
        self.assertEqual(last(begin(3, [1] * 9), take(4), PIECES), [1, 8, 0, 1, 2, 3, 5, 6, 7, 8])

    def test_two_pieces(self):
        self.assertEqual(last(begin(3, [1] * 9), take(1, 4, 7), PIECES), [2, 3, 0, 3, 6, 3, 2, 5, 8])

    def test_pieces_are_told_by_their_first_stamps_whatever_their_size(self):
        found = last(begin(4, [1] * 12), take(2, 5, 6, 8, 9), PIECES)
        self.assertEqual(found, [2, 3, 0, 1, 4, 4, 3, 7, 10, 11])
        found = last(begin(3, [9, 8, 7, 6, 5, 4]), take(1, 4), PIECES)
        self.assertEqual(found, [2, 2, 0, 3, 2, 2, 5])
        found = last(begin(6, [1] * 6), take(4), take(1), PIECES)
        self.assertEqual(found, [3, 1, 0, 2, 2, 3, 1, 5])
        found = last(begin(3, [1] * 9), take(1), take(3), PIECES)
        self.assertEqual(found, [2, 1, 0, 6, 2, 4, 5, 6, 7, 8])

    def test_corners_do_not_hang_together(self):
        found = last(begin(2, [1] * 4), take(1), take(2), PIECES)
        self.assertEqual(found, [2, 1, 0, 1, 3])

    def test_the_end_of_a_row_does_not_hang_with_the_next(self):
        found = last(begin(3, [1] * 6), take(0), take(1), take(4), take(5), PIECES)
        self.assertEqual(found, [2, 1, 2, 1, 3])

    def test_the_most_pieces(self):
        takes = [take(place) for place in (1, 3, 4, 6, 9, 11)]
        found = last(begin(4, [1] * 12), *takes, PIECES)
        self.assertEqual(found, [6, 1, 0, 1, 2, 1, 5, 1, 7, 1, 8, 1, 10])

    def test_a_piece_that_winds(self):
        found = last(begin(3, [1] * 12), take(3, 4), take(7, 8), PIECES)
        self.assertEqual(found, [2, 4, 0, 1, 2, 5, 4, 6, 9, 10, 11])

    def test_every_stamp_taken(self):
        self.assertEqual(last(begin(3, [1] * 6), take(0, 1, 2), take(3, 4, 5), PIECES), [0])

    def test_it_changes_nothing(self):
        found = ask(begin(3, [1] * 6), take(1), PIECES, PIECES, PIECES)
        self.assertEqual(found[2:], [[1, 5, 0, 2, 3, 4, 5]] * 3)


if __name__ == "__main__":
    unittest.main()
