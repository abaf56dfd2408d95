"""Points 7 and 8."""

import unittest

from tests.support import LOOK, PIECES, ask, begin, blocks, last, strips, take


def counts(call, *before, most=20):
    """What the call tells of 0 stamps, of 1, and so on up to most."""
    found = ask(*before, *[call(many) for many in range(most + 1)])[len(before):]
    for answer in found:
        if len(answer) != 1:
            raise AssertionError(f"not one number: {answer}")
    return [answer[0] for answer in found]


class Blocks(unittest.TestCase):
    def check(self, *before, wanted):
        """wanted: of 1 stamp, of 2, and so on; of none and of more there are none."""
        with self.subTest(before=before):
            self.assertEqual(counts(blocks, *before), [0] + wanted + [0] * (20 - len(wanted)))

    def test_one_place(self):
        self.check(begin(1, [7]), wanted=[1])

    def test_small_sheets(self):
        self.check(begin(2, [1, 2, 3, 4]), wanted=[4, 4, 4, 1])
        self.check(begin(3, [1] * 6), wanted=[6, 7, 10, 10, 6, 1])

    def test_one_row_and_one_column(self):
        self.check(begin(6, [1] * 6), wanted=[6, 5, 4, 3, 2, 1])
        self.check(begin(1, [1] * 12), wanted=[12, 11, 10, 9, 8, 7, 6, 5, 4, 3, 2, 1])

    def test_values_do_not_matter(self):
        wanted = counts(blocks, begin(3, [1] * 9))
        self.assertEqual(counts(blocks, begin(3, [9, 8, 7, 6, 5, 4, 3, 2, 1])), wanted)

    def test_a_full_sheet_of_12_places(self):
        # Of each stamp left out of 3 by 4 or 2 by 6, the other 11 hang together.
        for columns, pairs, threes in ((4, 17, 34), (3, 17, 34), (6, 16, 28), (2, 16, 28)):
            found = counts(blocks, begin(columns, [5] * 12))
            with self.subTest(columns=columns):
                self.assertEqual(found[:4], [0, 12, pairs, threes])
                self.assertEqual(found[11:], [12, 1] + [0] * 8)
        # All that hang together in 3 by 4 and in 2 by 6, counted by trying each of the 4095 choices.
        self.assertEqual(sum(counts(blocks, begin(4, [1] * 12))), 1126)
        self.assertEqual(sum(counts(blocks, begin(6, [1] * 12))), 681)

    def test_a_full_sheet_of_12_places_parted_by_takes(self):
        # A column taken leaves 3 by 1 and 3 by 2; a row taken leaves 1 by 4 twice.
        self.check(begin(4, [1] * 12), take(1, 5, 9), wanted=[3 + 6, 2 + 7, 1 + 10, 10, 6, 1])
        self.check(begin(4, [1] * 12), take(4, 5, 6, 7), wanted=[8, 6, 4, 2])
        singles = [take(place) for place in (1, 3, 4, 6, 9, 11)]
        self.check(begin(4, [1] * 12), *singles, wanted=[6])

    def test_behind_takes(self):
        # A ring of 8, of which as many begin at each stamp.
        self.check(begin(3, [1] * 9), take(4), wanted=[8, 8, 8, 8, 8, 8, 8, 1])
        self.check(begin(3, [1, 2, 3]), take(1), wanted=[2])
        self.check(begin(3, [1, 2, 3]), take(0, 1, 2), wanted=[])

    def test_it_changes_nothing(self):
        found = ask(begin(2, [1, 2, 3, 4]), take(0), LOOK, PIECES, blocks(0), blocks(2), blocks(20), LOOK, PIECES)
        self.assertEqual(found[2:4], found[7:])


class Strips(unittest.TestCase):
    def check(self, *before, wanted):
        with self.subTest(before=before):
            self.assertEqual(counts(strips, *before), [0] + wanted + [0] * (20 - len(wanted)))

    def test_one_place(self):
        self.check(begin(1, [7]), wanted=[1])

    def test_a_single_stamp_is_one_strip(self):
        for columns in (1, 2, 3, 4, 6):
            with self.subTest(columns=columns):
                self.assertEqual(last(begin(columns, [1] * 12), strips(1)), [12])
                self.assertEqual(last(begin(columns, [1] * 12), take(0), strips(1)), [11])

    def test_rows_and_columns(self):
        self.check(begin(2, [1] * 4), wanted=[4, 4])
        self.check(begin(3, [1] * 6), wanted=[6, 4 + 3, 2])
        self.check(begin(2, [1] * 6), wanted=[6, 3 + 4, 2])
        self.check(begin(3, [1] * 9), wanted=[9, 6 + 6, 3 + 3])
        self.check(begin(4, [1] * 12), wanted=[12, 9 + 8, 6 + 4, 3])
        self.check(begin(3, [1] * 12), wanted=[12, 8 + 9, 4 + 6, 3])
        self.check(begin(6, [1] * 12), wanted=[12, 10 + 6, 8, 6, 4, 2])

    def test_one_row_and_one_column(self):
        self.check(begin(6, [1] * 6), wanted=[6, 5, 4, 3, 2, 1])
        self.check(begin(1, [1] * 6), wanted=[6, 5, 4, 3, 2, 1])
        self.check(begin(1, [1] * 12), wanted=[12, 11, 10, 9, 8, 7, 6, 5, 4, 3, 2, 1])

    def test_a_taken_stamp_parts_a_strip(self):
        self.check(begin(5, [1] * 5), take(2), wanted=[4, 2])
        self.check(begin(1, [1] * 5), take(2), wanted=[4, 2])
        self.check(begin(3, [1] * 9), take(4), wanted=[8, 8, 4])
        self.check(begin(4, [1] * 12), take(5), wanted=[11, 6 + 1 + 6, 4 + 3, 2])

    def test_it_does_not_go_on_in_the_next_row(self):
        # What is left of two rows of three: the last stamp above and the first below.
        self.check(begin(3, [1] * 6), take(0, 1), take(4, 5), wanted=[2])
        self.check(begin(2, [1] * 4), take(0), take(3), wanted=[2])

    def test_a_block_with_a_corner_is_no_strip(self):
        self.check(begin(2, [1] * 4), take(3), wanted=[3, 2])
        self.check(begin(3, [1] * 6), take(1, 2), wanted=[4, 3, 1])

    def test_every_stamp_taken(self):
        self.check(begin(2, [1] * 4), take(0, 1, 2, 3), wanted=[])

    def test_it_changes_nothing(self):
        found = ask(begin(2, [1, 2, 3, 4]), take(0), LOOK, PIECES, strips(0), strips(2), strips(20), LOOK, PIECES)
        self.assertEqual(found[2:4], found[7:])


if __name__ == "__main__":
    unittest.main()
