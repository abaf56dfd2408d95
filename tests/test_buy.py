"""Point 10."""

import unittest

from tests.support import LOOK, PIECES, VALUES, ask, begin, blocks, buy, fewest, last, take, two, ways, would

#  1 2 3
#  4 5 6
SIX = begin(3, [1, 2, 3, 4, 5, 6])


class Buy(unittest.TestCase):
    def test_it_takes_the_block_that_fewest_tells(self):
        for values in ([1, 2, 3, 4, 5, 6], [1] * 6, [2, 1, 2, 1, 2, 1], [9, 1, 1, 1, 1, 9]):
            for value in range(1, 22):
                with self.subTest(values=values, value=value):
                    sheet = begin(3, values)
                    told, bought, shown = ask(sheet, fewest(value), buy(value), LOOK)[1:]
                    self.assertEqual(bought, told)
                    if told == [-6]:
                        self.assertEqual(shown, [0, 0, 3, 6] + values)
                    else:
                        left = [0 if place in told[2:] else values[place] for place in range(6)]
                        self.assertEqual(shown, [value, told[0], 3, 6] + left)

    def test_the_fewest_tears_then_the_first(self):
        # The single 5 and the row 2 3 take three tears each, the column 1 4 takes two.
        self.assertEqual(last(SIX, buy(5)), [2, 2, 0, 3])
        self.assertEqual(last(begin(3, [9, 4, 9, 9, 9, 4]), buy(4)), [2, 1, 5])
        self.assertEqual(last(begin(2, [1, 1, 1, 1]), buy(2)), [2, 2, 0, 1])

    def test_one_behind_the_other(self):
        found = ask(begin(2, [1, 1, 1, 1]), buy(1), buy(1), buy(1), buy(1), buy(1), LOOK)
        self.assertEqual(found[1:6], [[2, 1, 0], [1, 1, 1], [1, 1, 2], [0, 1, 3], [-6]])
        self.assertEqual(found[6], [4, 4, 2, 4, 0, 0, 0, 0])

    def test_the_whole_sheet(self):
        found = ask(begin(4, [9] * 12), buy(108), PIECES, LOOK, buy(9))
        self.assertEqual(found[1:], [[0, 12] + list(range(12)), [0], [108, 0, 4, 12] + [0] * 12, [-6]])

    def test_none_changes_nothing(self):
        looks = [PIECES, VALUES, LOOK, ways(5), blocks(2)]
        before = ask(SIX, take(1), *looks)[2:]
        for value in (0, 2, 20, 200):
            with self.subTest(value=value):
                found = ask(SIX, take(1), buy(value), *looks)
                self.assertEqual(found[2], [-6])
                self.assertEqual(found[3:], before)

    def test_the_calls_behind_speak_of_what_is_left(self):
        found = ask(SIX, buy(7), PIECES, ways(7), would(1), would(4), LOOK, VALUES, two(3, 6), take(4))
        # 1 2 4 take three tears, 2 5 would take four.
        self.assertEqual(found[1], [3, 3, 0, 1, 3])
        self.assertEqual(found[2], [1, 3, 2, 4, 5])
        self.assertEqual(found[3:6], [[0], [-2], [5, 1, 1]])
        self.assertEqual(found[6], [7, 3, 3, 6, 0, 0, 3, 0, 5, 6])
        self.assertEqual(found[7], [6, 3, 5, 6, 9, 11, 14])
        self.assertEqual(found[8], [2, 1, 2, 1, 5])
        self.assertEqual(found[9], [5, 1])

    def test_behind_takes_and_another_begin(self):
        row = begin(5, [1, 9, 2, 9, 1])
        self.assertEqual(last(row, take(3), buy(1)), [0, 1, 4])
        self.assertEqual(last(row, buy(1), buy(1), row, buy(1)), [1, 1, 0])


if __name__ == "__main__":
    unittest.main()
