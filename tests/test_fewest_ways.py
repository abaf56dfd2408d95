"""Points 5 and 6."""

import unittest

from tests.support import PIECES, ask, begin, fewest, last, take, ways, would


class Fewest(unittest.TestCase):
    def test_fewest_tears_go_ahead_of_fewer_stamps(self):
        # The 5 in the middle takes 4 tears, the row of 2, 2, 1 below takes 3.
        sheet = begin(3, [9, 9, 9, 9, 5, 9, 2, 2, 1])
        self.assertEqual(last(sheet, fewest(5)), [3, 3, 6, 7, 8])

    def test_fewest_tears_go_ahead_of_lower_places(self):
        sheet = begin(3, [9, 4, 9, 9, 9, 4])
        self.assertEqual(last(sheet, fewest(4)), [2, 1, 5])

    def test_of_as_few_tears_fewer_stamps(self):
        # The row 1, 2 ahead and the single 3 behind take one tear each.
        self.assertEqual(last(begin(6, [1, 2, 9, 9, 9, 3]), fewest(3)), [1, 1, 5])
        # Likewise with two tears each.
        self.assertEqual(last(begin(2, [1, 2, 9, 3]), fewest(3)), [2, 1, 3])

    def test_of_as_many_stamps_the_lower_number_where_they_first_differ(self):
        self.assertEqual(last(begin(2, [1, 1, 1, 1]), fewest(1)), [2, 1, 0])
        self.assertEqual(last(begin(2, [1, 1, 1, 1]), fewest(2)), [2, 2, 0, 1])
        self.assertEqual(last(begin(2, [1, 1, 1, 1]), fewest(3)), [2, 3, 0, 1, 2])
        self.assertEqual(last(begin(3, [1, 9, 1, 9, 9, 9, 1, 9, 1]), fewest(1)), [2, 1, 0])
        self.assertEqual(last(begin(3, [9, 9, 1, 9, 9, 9, 1, 9, 1]), fewest(1)), [2, 1, 2])

    def test_the_first_difference_counts_not_the_last_place(self):
        # 0 3 and 1 2 take three tears each: the last place of the first is the higher one.
        sheet = begin(3, [3, 5, 2, 4, 9, 9, 9, 9, 9])
        self.assertEqual(last(sheet, fewest(7)), [3, 2, 0, 3])
        # 1 3 5 6 7, 1 4 5 6 7 and 3 4 5 6 7 take one tear each.
        found = last(begin(4, [1] * 8), take(0), take(2), fewest(5))
        self.assertEqual(found, [1, 5, 1, 3, 5, 6, 7])

    def test_the_whole_sheet(self):
        self.assertEqual(last(begin(3, [1, 2, 3, 4, 5, 6]), fewest(21)), [0, 6, 0, 1, 2, 3, 4, 5])
        self.assertEqual(last(begin(4, [9] * 12), fewest(108)), [0, 12] + list(range(12)))

    def test_none(self):
        for value in (0, 4, 7, 13, 109, 200):
            with self.subTest(value=value):
                self.assertEqual(last(begin(2, [2, 8, 8, 9]), fewest(value)), [-6])

    def test_stamps_of_that_value_that_do_not_hang_together(self):
        self.assertEqual(last(begin(3, [1, 9, 2]), fewest(3)), [-6])
        self.assertEqual(last(begin(3, [9, 9, 1, 2, 9, 9]), fewest(3)), [-6])

    def test_none_behind_takes(self):
        self.assertEqual(last(begin(3, [1, 2, 3]), take(1), fewest(2)), [-6])
        self.assertEqual(last(begin(3, [1, 2, 3]), take(1), fewest(4)), [-6])
        self.assertEqual(last(begin(3, [1, 2, 3]), take(0, 1, 2), fewest(0)), [-6])
        self.assertEqual(last(begin(3, [1, 2, 3]), take(0, 1, 2), fewest(1)), [-6])

    def test_only_stamps_that_are_there_are_torn_from(self):
        sheet = begin(3, [5, 9, 9, 9, 5, 9, 9, 9, 9])
        self.assertEqual(last(sheet, fewest(5)), [2, 1, 0])
        self.assertEqual(last(sheet, take(1), take(3), fewest(5)), [0, 1, 0])
        self.assertEqual(last(sheet, take(1), take(5), take(7), fewest(5)), [1, 1, 0])
        self.assertEqual(last(sheet, take(5), take(7), take(3), take(1), take(0), fewest(5)), [0, 1, 4])

    def test_a_piece_by_itself_takes_no_tear(self):
        sheet = begin(6, [2, 2, 9, 4, 9, 4])
        self.assertEqual(last(sheet, take(2), fewest(4)), [0, 2, 0, 1])
        self.assertEqual(last(sheet, take(2), take(4), fewest(4)), [0, 1, 3])

    def test_it_changes_nothing(self):
        found = ask(begin(3, [1, 2, 3, 4, 5, 6]), fewest(5), PIECES, fewest(5), fewest(100), PIECES, would(4))
        self.assertEqual(found[1], found[3])
        self.assertEqual(found[2], [1, 6, 0, 1, 2, 3, 4, 5])
        self.assertEqual(found[5], found[2])
        self.assertEqual(found[6], [5, 3, 1])


class Ways(unittest.TestCase):
    def test_values_that_no_block_has(self):
        for value in (0, 5, 13, 200):
            with self.subTest(value=value):
                self.assertEqual(last(begin(2, [1, 2, 3, 6]), ways(value)), [0])

    def test_values_that_one_block_has(self):
        for value in (1, 2, 4, 5, 6, 7, 9, 10, 11):
            with self.subTest(value=value):
                self.assertEqual(last(begin(2, [1, 2, 3, 5]), ways(value)), [1])

    def test_values_that_many_blocks_have(self):
        self.assertEqual(last(begin(2, [1, 2, 3, 5]), ways(3)), [2])
        found = ask(begin(2, [1, 1, 1, 1]), *[ways(value) for value in range(6)])
        self.assertEqual(found[1:], [[0], [4], [4], [4], [1], [0]])
        found = ask(begin(6, [1] * 6), *[ways(value) for value in range(8)])
        self.assertEqual(found[1:], [[0], [6], [5], [4], [3], [2], [1], [0]])

    def test_blocks_of_one_value_but_other_stamps_are_not_the_same(self):
        self.assertEqual(last(begin(3, [1, 2, 3]), ways(3)), [2])
        self.assertEqual(last(begin(3, [3, 9, 3]), ways(3)), [2])

    def test_a_full_sheet_of_12_places(self):
        # How many hang together of so many, in grids of 3 by 4, 2 by 6 and 1 by 12.
        for columns, single, pairs, threes in ((4, 12, 17, 34), (3, 12, 17, 34), (6, 12, 16, 28), (2, 12, 16, 28),
                                               (1, 12, 11, 10)):
            with self.subTest(columns=columns):
                found = ask(begin(columns, [9] * 12), ways(9), ways(18), ways(27), ways(99), ways(108), ways(117))
                ends = 2 if columns == 1 else 12
                self.assertEqual(found[1:], [[single], [pairs], [threes], [ends], [1], [0]])

    def test_a_full_sheet_of_12_places_behind_takes(self):
        sheet = begin(4, [1] * 12)
        found = ask(sheet, take(5), ways(1), ways(2), ways(11), take(6), ways(1), ways(2), ways(10), ways(11))
        self.assertEqual(found[2:5], [[11], [13], [1]])
        self.assertEqual(found[6:], [[10], [10], [1], [0]])
        self.assertEqual(last(sheet, take(*range(12)), ways(1)), [0])

    def test_it_changes_nothing(self):
        found = ask(begin(3, [1, 2, 3, 4, 5, 6]), take(1), ways(5), PIECES, ways(5), would(4))
        self.assertEqual(found[2:], [[2], [1, 5, 0, 2, 3, 4, 5], [2], [5, 2, 2]])


if __name__ == "__main__":
    unittest.main()
