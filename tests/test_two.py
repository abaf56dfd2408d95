"""Point 9."""

import unittest

from tests.support import LOOK, PIECES, VALUES, ask, begin, fewest, last, take, two


class Two(unittest.TestCase):
    def check(self, *calls, answer):
        with self.subTest(calls=calls):
            self.assertEqual(last(*calls), answer)

    def test_blocks_that_do_not_touch(self):
        self.check(begin(3, [1, 9, 2]), two(1, 2), answer=[2, 1, 0, 1, 2])
        self.check(begin(3, [1, 9, 9, 9, 9, 9, 9, 9, 2]), two(1, 2), answer=[4, 1, 0, 1, 8])

    def test_the_first_value_is_told_first(self):
        self.check(begin(3, [1, 9, 2]), two(2, 1), answer=[2, 1, 2, 1, 0])
        self.check(begin(3, [1, 1, 5]), two(5, 2), answer=[1, 1, 2, 2, 0, 1])
        self.check(begin(3, [1, 1, 5]), two(2, 5), answer=[1, 2, 0, 1, 1, 2])

    def test_holes_between_the_two_are_torn_once(self):
        self.check(begin(2, [1, 2]), two(1, 2), answer=[1, 1, 0, 1, 1])
        self.check(begin(4, [9, 1, 2, 9]), two(1, 2), answer=[3, 1, 1, 1, 2])
        self.check(begin(1, [9, 1, 2, 9]), two(2, 1), answer=[3, 1, 2, 1, 1])
        self.check(begin(2, [1, 3, 1, 3]), two(2, 6), answer=[2, 2, 0, 2, 2, 1, 3])

    def test_the_two_together_count_not_each_by_itself(self):
        #  1 3 9 6 9
        #  1 3 9 9 9
        sheet = begin(5, [1, 3, 9, 6, 9, 1, 3, 9, 9, 9])
        self.check(sheet, fewest(6), answer=[3, 1, 3])
        self.check(sheet, two(2, 6), answer=[4, 2, 0, 5, 2, 1, 6])
        self.check(sheet, two(6, 2), answer=[4, 2, 1, 6, 2, 0, 5])

    def test_fewest_tears_go_ahead_of_what_is_first(self):
        # The 1 at 1 and the 2 at 3 take more tears than those behind.
        self.check(begin(6, [9, 1, 9, 2, 9, 1]), two(1, 2), answer=[3, 1, 5, 1, 3])
        self.check(begin(6, [1, 9, 2, 9, 9, 2]), two(1, 2), answer=[2, 1, 0, 1, 5])
        # The single 2 takes four tears, the pair of 1 and 1 three.
        self.check(begin(3, [9, 9, 9, 9, 2, 9, 1, 1, 5]), two(2, 5), answer=[4, 2, 6, 7, 1, 8])

    def test_of_as_good_pairs_the_first_first_block(self):
        self.check(begin(2, [1, 1, 1, 1]), two(1, 1), answer=[3, 1, 0, 1, 1])
        self.check(begin(5, [1, 9, 2, 9, 1]), two(1, 2), answer=[3, 1, 0, 1, 2])
        # Fewer stamps go ahead of lower places.
        self.check(begin(6, [1, 1, 9, 5, 9, 2]), two(2, 5), answer=[3, 1, 5, 1, 3])

    def test_of_these_the_first_second_block(self):
        self.check(begin(5, [2, 9, 1, 9, 2]), two(1, 2), answer=[3, 1, 2, 1, 0])
        self.check(begin(6, [1, 1, 9, 5, 9, 2]), two(5, 2), answer=[3, 1, 3, 1, 5])
        # 1 and 2 at the corners, neighbours of 0 alike.
        self.check(begin(2, [5, 1, 1, 1]), two(5, 1), answer=[3, 1, 0, 1, 1])

    def test_the_first_block_goes_ahead_of_the_second(self):
        # Two tears each: 0 1 with 3, 1 2 with 3, 2 3 with 1, of which 1 would be the first second block.
        self.check(begin(4, [1, 2, 1, 2]), two(3, 2), answer=[2, 2, 0, 1, 1, 3])
        self.check(begin(4, [1, 2, 1, 2]), two(2, 3), answer=[2, 1, 1, 2, 2, 3])

    def test_the_same_value_twice(self):
        self.check(begin(3, [4, 9, 4]), two(4, 4), answer=[2, 1, 0, 1, 2])
        self.check(begin(2, [1, 1, 1, 1]), two(2, 2), answer=[2, 2, 0, 1, 2, 2, 3])
        self.check(begin(4, [1] * 12), two(6, 6), answer=[3, 6, 0, 1, 4, 5, 8, 9, 6, 2, 3, 6, 7, 10, 11])
        self.check(begin(3, [4, 9, 9]), two(4, 4), answer=[-6])

    def test_blocks_that_always_have_a_stamp_in_common(self):
        self.check(begin(3, [1, 2, 1]), fewest(3), answer=[1, 2, 0, 1])
        self.check(begin(3, [1, 2, 1]), two(3, 3), answer=[-6])
        self.check(begin(2, [1, 2]), two(3, 1), answer=[-6])
        self.check(begin(2, [1, 2]), two(1, 3), answer=[-6])
        self.check(begin(2, [1, 2, 3, 4]), two(10, 10), answer=[-6])
        self.check(begin(1, [5]), two(5, 5), answer=[-6])

    def test_a_value_that_no_block_has(self):
        sheet = begin(2, [1, 2, 4, 8])
        for value in (0, 11, 16, 109, 200):
            self.check(sheet, two(value, 1), answer=[-6])
            self.check(sheet, two(1, value), answer=[-6])
            self.check(sheet, two(value, value), answer=[-6])

    def test_no_block_is_no_block_of_value_0(self):
        self.check(begin(2, [1, 2, 4, 8]), two(15, 0), answer=[-6])
        self.check(begin(2, [1, 2, 4, 8]), two(0, 15), answer=[-6])
        self.check(begin(2, [1, 2]), take(0, 1), two(0, 0), answer=[-6])

    def test_the_whole_sheet_in_two(self):
        self.check(begin(3, [9, 9, 9, 1, 1, 1]), two(27, 3), answer=[3, 3, 0, 1, 2, 3, 3, 4, 5])

    def test_behind_takes(self):
        sheet = begin(5, [1, 9, 2, 9, 1])
        self.check(sheet, take(1), two(1, 2), answer=[1, 1, 0, 1, 2])
        self.check(sheet, take(3), two(1, 2), answer=[1, 1, 4, 1, 2])
        self.check(sheet, take(0), two(1, 2), answer=[3, 1, 4, 1, 2])
        self.check(sheet, take(2), two(1, 2), answer=[-6])
        self.check(sheet, take(0), two(1, 1), answer=[-6])
        self.check(sheet, take(0, 1, 2, 3, 4), two(1, 2), answer=[-6])

    def test_it_changes_nothing(self):
        looks = [LOOK, PIECES, VALUES, fewest(3)]
        for asked in (two(1, 3), two(3, 3), two(6, 5), two(0, 1), two(200, 200)):
            with self.subTest(asked=asked):
                found = ask(begin(3, [1, 2, 3, 4, 5, 6]), take(1), asked, *looks, asked)
                self.assertEqual(found[3:-1], ask(begin(3, [1, 2, 3, 4, 5, 6]), take(1), *looks)[2:])
                self.assertEqual(found[2], found[-1])

    def test_60_calls_on_a_full_sheet(self):
        calls = [begin(4, [1] * 12)] + [two(4, 5)] * 59
        found = ask(*calls)
        self.assertEqual(found[1:], [found[1]] * 59)


if __name__ == "__main__":
    unittest.main()
