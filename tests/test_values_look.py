"""Points 11 and 12."""

import unittest

from tests.support import (LOOK, PIECES, VALUES, ask, begin, blocks, buy, fewest, last, strips, take, two, ways,
                           would)


class Values(unittest.TestCase):
    def test_one_stamp(self):
        for value in (1, 9):
            self.assertEqual(last(begin(1, [value]), VALUES), [1, value])

    def test_several(self):
        self.assertEqual(last(begin(2, [1, 2]), VALUES), [3, 1, 2, 3])
        # 2 with 3 and 1 with 8 meet at a corner alone, so 5 and 9 are none.
        found = last(begin(2, [1, 2, 3, 8]), VALUES)
        self.assertEqual(found, [11, 1, 2, 3, 4, 6, 8, 10, 11, 12, 13, 14])

    def test_rising_whatever_the_places(self):
        self.assertEqual(last(begin(3, [9, 1, 5]), VALUES), [6, 1, 5, 6, 9, 10, 15])
        self.assertEqual(last(begin(1, [9, 5, 1]), VALUES), [6, 1, 5, 6, 9, 14, 15])

    def test_each_value_once(self):
        self.assertEqual(last(begin(2, [3, 3, 3, 3]), VALUES), [4, 3, 6, 9, 12])
        self.assertEqual(last(begin(4, [9] * 12), VALUES), [12] + [9 * many for many in range(1, 13)])

    def test_only_what_hangs_together(self):
        self.assertEqual(last(begin(3, [1, 9, 2]), VALUES), [6, 1, 2, 9, 10, 11, 12])
        self.assertEqual(last(begin(3, [1, 9, 2]), take(1), VALUES), [2, 1, 2])

    def test_behind_takes_and_buys(self):
        self.assertEqual(last(begin(2, [1, 2, 3, 8]), take(3), VALUES), [5, 1, 2, 3, 4, 6])
        self.assertEqual(last(begin(3, [1, 2, 4]), buy(4), VALUES), [3, 1, 2, 3])

    def test_every_stamp_taken(self):
        self.assertEqual(last(begin(2, [1, 2, 3, 4]), take(0, 1, 2, 3), VALUES), [0])
        self.assertEqual(last(begin(1, [5]), buy(5), VALUES), [0])

    def test_they_are_those_that_have_ways(self):
        sheet = [begin(4, [1, 9, 2, 8, 3, 7, 4, 6, 5, 5, 9, 9]), take(5)]
        rising = last(*sheet, VALUES)
        had = [value for value in range(109) if last(*sheet, ways(value)) != [0]]
        self.assertEqual(rising[1:], had)
        self.assertEqual(rising[0], len(rising) - 1)

    def test_it_changes_nothing(self):
        found = ask(begin(2, [1, 2, 3, 4]), take(0), VALUES, LOOK, PIECES, VALUES)
        self.assertEqual(found[2], [6, 2, 3, 4, 6, 7, 9])
        self.assertEqual(found[3:], [[1, 2, 2, 4, 0, 2, 3, 4], [1, 3, 1, 2, 3], found[2]])


class Look(unittest.TestCase):
    SHEET = begin(2, [1, 2, 3, 4])

    def test_behind_begin(self):
        self.assertEqual(last(self.SHEET, LOOK), [0, 0, 2, 4, 1, 2, 3, 4])
        self.assertEqual(last(begin(1, [9]), LOOK), [0, 0, 1, 1, 9])
        self.assertEqual(last(begin(6, [1, 2, 3, 4, 5, 6]), LOOK), [0, 0, 6, 6, 1, 2, 3, 4, 5, 6])
        self.assertEqual(last(begin(1, [1, 2, 3, 4, 5, 6]), LOOK), [0, 0, 1, 6, 1, 2, 3, 4, 5, 6])
        values = [9, 8, 7, 6, 5, 4, 3, 2, 1, 1, 5, 9]
        for columns in (1, 2, 3, 4, 6):
            self.assertEqual(last(begin(columns, values), LOOK), [0, 0, columns, 12] + values)

    def test_values_and_tears_of_takes_and_buys_are_added_up(self):
        found = ask(self.SHEET, take(0), LOOK, buy(3), LOOK, take(1), LOOK, buy(4), LOOK)
        self.assertEqual(found[1::2], [[1, 2], [1, 1, 2], [2, 1], [0, 1, 3]])
        self.assertEqual(found[2::2], [[1, 2, 2, 4, 0, 2, 3, 4], [4, 3, 2, 4, 0, 2, 0, 4],
                                       [6, 4, 2, 4, 0, 0, 0, 4], [10, 4, 2, 4, 0, 0, 0, 0]])

    def test_takes_of_several_stamps(self):
        found = ask(begin(3, [1, 2, 3, 4, 5, 6]), take(4, 1), LOOK, take(0, 3), LOOK)
        self.assertEqual(found[2], [7, 4, 3, 6, 1, 0, 3, 4, 0, 6])
        self.assertEqual(found[4], [12, 4, 3, 6, 0, 0, 3, 0, 0, 6])

    def test_behind_calls_that_change_nothing(self):
        before = [1, 2, 2, 4, 0, 2, 3, 4]
        for call in (take(0), take(9), take(1, 1), take(1, 2), take(), would(1), would(1, 3), would(0), would(1, 2),
                     PIECES, fewest(4), fewest(1), fewest(0), ways(4), ways(0), blocks(1), strips(2), two(2, 3),
                     two(1, 2), two(0, 0), buy(1), buy(0), buy(200), VALUES, LOOK):
            with self.subTest(call=call):
                self.assertEqual(last(self.SHEET, take(0), call, LOOK), before)

    def test_behind_a_refused_begin(self):
        for refused in (begin(0, [1]), begin(7, [1] * 7), begin(1, []), begin(1, [1] * 13), begin(2, [1, 1, 1]),
                        begin(2, [1, 0]), begin(2, [1, 10])):
            with self.subTest(refused=refused):
                self.assertEqual(last(self.SHEET, buy(3), refused, LOOK), [3, 2, 2, 4, 1, 2, 0, 4])

    def test_behind_another_begin(self):
        found = ask(self.SHEET, take(0), buy(3), begin(3, [5, 6, 7]), LOOK, take(1), LOOK, self.SHEET, LOOK)
        self.assertEqual(found[4], [0, 0, 3, 3, 5, 6, 7])
        self.assertEqual(found[6], [6, 2, 3, 3, 5, 0, 7])
        self.assertEqual(found[8], [0, 0, 2, 4, 1, 2, 3, 4])

    def test_every_stamp_taken(self):
        self.assertEqual(last(self.SHEET, take(3, 2, 1, 0), LOOK), [10, 0, 2, 4, 0, 0, 0, 0])


if __name__ == "__main__":
    unittest.main()
