"""Point 1, and what holds while there is no sheet."""

import unittest

from tests.support import LOOK, PIECES, VALUES, ask, begin, blocks, buy, fewest, last, strips, take, two, ways, would


class WithoutASheet(unittest.TestCase):
    CALLS = (take(0), would(0), take(), would(), PIECES, fewest(1), fewest(0), ways(1), ways(200), blocks(0), blocks(1),
             strips(0), strips(20), two(1, 1), two(0, 200), buy(1), buy(0), VALUES, LOOK)

    def test_each_call_but_begin_answers_minus_9(self):
        for call in self.CALLS:
            with self.subTest(call=call):
                self.assertEqual(ask(call), [[-9]])

    def test_behind_a_begin_refused_at_the_beginning(self):
        for call in self.CALLS:
            with self.subTest(call=call):
                self.assertEqual(ask(begin(0, [1]), call), [[-1], [-9]])

    def test_minus_9_comes_ahead_of_other_refusals(self):
        calls = [take(20), take(0, 0), would(0, 2), fewest(0), two(0, 0), two(0, 1), buy(0)]
        self.assertEqual(ask(*calls), [[-9]] * 7)

    def test_what_such_a_call_is_handed_is_read_over(self):
        calls = [take(*range(14)), would(3, 3, 3), fewest(3), ways(3), PIECES, begin(1, [5]), PIECES]
        self.assertEqual(ask(*calls), [[-9]] * 5 + [[0], [1, 1, 0]])
        # Each number that is handed over would be another call by itself.
        calls = [blocks(3), strips(10), two(11, 3), two(0, 0), two(8, 9), buy(10), VALUES, LOOK, begin(1, [5]), LOOK]
        self.assertEqual(ask(*calls), [[-9]] * 8 + [[0], [0, 0, 1, 1, 5]])


class Begin(unittest.TestCase):
    def test_columns(self):
        for columns, answer in ((0, -1), (1, 0), (2, 0), (3, 0), (4, 0), (5, -1), (6, 0), (7, -1), (9, -1)):
            with self.subTest(columns=columns):
                self.assertEqual(ask(begin(columns, [1] * 12)), [[answer]])

    def test_columns_with_one_full_row(self):
        for columns, answer in ((1, 0), (5, 0), (6, 0), (7, -1), (8, -1), (9, -1)):
            with self.subTest(columns=columns):
                self.assertEqual(ask(begin(columns, [1] * columns)), [[answer]])

    def test_no_columns_with_any_places(self):
        for places in (0, 1, 12, 13):
            with self.subTest(places=places):
                self.assertEqual(ask(begin(0, [1] * places)), [[-1]])

    def test_places(self):
        for places in range(15):
            with self.subTest(places=places):
                self.assertEqual(ask(begin(1, [1] * places)), [[0 if 1 <= places <= 12 else -1]])

    def test_too_many_places_in_full_rows(self):
        self.assertEqual(ask(begin(2, [1] * 14)), [[-1]])

    def test_a_last_row_that_is_not_as_long(self):
        for columns, places in ((2, 3), (2, 11), (3, 4), (3, 5), (4, 10), (5, 6), (5, 12), (6, 7), (6, 11)):
            with self.subTest(columns=columns, places=places):
                self.assertEqual(ask(begin(columns, [1] * places)), [[-1]])

    def test_one_row_that_is_shorter_than_the_columns(self):
        for columns, places in ((2, 1), (6, 5), (6, 1)):
            with self.subTest(columns=columns, places=places):
                self.assertEqual(ask(begin(columns, [1] * places)), [[-1]])

    def test_values(self):
        for value, answer in ((0, -1), (1, 0), (9, 0), (10, -1), (20, -1)):
            for place in range(4):
                values = [5] * 4
                values[place] = value
                with self.subTest(values=values):
                    self.assertEqual(ask(begin(2, values)), [[answer]])

    def test_values_are_told_place_by_place(self):
        values = [9, 1, 2, 8, 3, 7]
        found = ask(begin(3, values), *[would(place) for place in range(6)])
        self.assertEqual([answer[0] for answer in found[1:]], values)

    def test_a_refused_begin_leaves_the_sheet_that_there_was(self):
        for refused in (begin(0, [1]), begin(7, [1] * 7), begin(1, []), begin(1, [1] * 13), begin(2, [1, 1, 1]),
                        begin(1, [0]), begin(1, [10])):
            with self.subTest(refused=refused):
                found = ask(begin(2, [1, 2, 3, 4]), take(0), refused, PIECES, would(1, 3), LOOK)
                self.assertEqual(found[:5], [[0], [1, 2], [-1], [1, 3, 1, 2, 3], [6, 1, 1]])
                self.assertEqual(found[5], [1, 2, 2, 4, 0, 2, 3, 4])

    def test_a_good_begin_puts_another_sheet_in_its_place(self):
        found = ask(begin(2, [1, 2, 3, 4]), take(0), begin(3, [7, 8, 9]), PIECES, would(0, 1), take(3))
        self.assertEqual(found[2:], [[0], [1, 3, 0, 1, 2], [15, 1, 1], [-2]])

    def test_the_same_sheet_again_has_no_stamp_taken(self):
        sheet = begin(2, [1, 2, 3, 4])
        self.assertEqual(last(sheet, take(0, 1, 2, 3), sheet, PIECES), [1, 4, 0, 1, 2, 3])


if __name__ == "__main__":
    unittest.main()
