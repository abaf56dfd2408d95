"""The interface: one list of calls in, one list of answers out."""

import builtins
import contextlib
import io
import unittest
from unittest import mock

from stampsheetdesk.tears import answers
from tests.plain import plain_answers
from tests.support import LOOK, PIECES, VALUES, WRITTEN, ask, begin, blocks, buy, fewest, strips, take, two, ways, would

# Each of the twelve calls five times, on a sheet of 12 places.
TWELVE_TIMES_FIVE = [
    ("look",), ("begin", 4, [1, 2, 3, 4, 5, 6, 7, 8, 9, 1, 2, 3]), ("look",), ("values",), ("pieces",), ("ways", 9),
    ("blocks", 1), ("blocks", 5), ("blocks", 12), ("strips", 1), ("strips", 4), ("fewest", 15), ("buy", 15),
    ("two", 9, 9), ("two", 1, 200), ("would", [4, 5]), ("take", [5]), ("take", [5]), ("pieces",), ("look",),
    ("begin", 5, [1] * 12), ("ways", 10), ("fewest", 10), ("two", 3, 7), ("buy", 200), ("buy", 10), ("values",),
    ("would", [0, 11]), ("strips", 2), ("strips", 3), ("blocks", 20), ("take", [0, 11]), ("would", [20]),
    ("begin", 3, [1] * 12), ("two", 4, 4), ("two", 1, 2), ("buy", 1), ("fewest", 6), ("ways", 6), ("ways", 0),
    ("pieces",), ("values",), ("take", [4, 7, 10]), ("would", [3, 6]), ("pieces",), ("strips", 0), ("blocks", 0),
    ("begin", 6, [9, 8, 7, 6, 5, 4, 3, 2, 1, 9, 8, 7]), ("fewest", 9), ("buy", 9), ("would", [4, 10]),
    ("ways", 16), ("fewest", 72), ("values",), ("begin", 7, [1] * 7), ("look",), ("take", []), ("pieces",),
    ("values",), ("look",),
]


def joined(*calls):
    return [number for call in calls for number in call]


class Unchangeable(list):
    """A list that tells every try to change it."""

    def refuse(self, *handed, **named):
        raise AssertionError("what is handed in was changed")

    append = extend = insert = pop = remove = clear = sort = reverse = refuse
    __setitem__ = __delitem__ = __iadd__ = __imul__ = refuse


class TheLists(unittest.TestCase):
    def test_each_answer_stands_behind_how_many_numbers_it_has(self):
        self.assertEqual(answers([3]), [1, -9])
        self.assertEqual(answers([0, 1, 1, 1]), [1, 0])
        self.assertEqual(answers([0, 1, 0]), [1, -1])
        calls = [3, 0, 2, 4, 1, 2, 3, 4, 2, 2, 1, 0, 1, 1, 3, 3, 4, 2, 4, 9, 5, 3, 1, 0, 2, 1, 3]
        wanted = [1, -9, 1, 0, 3, 3, 2, 1, 2, 4, 2, 5, 1, 3, 0, 1, 2, 3, 1, 1, 1, 1, -6, 1, 2, 1, -7, 1, -2]
        self.assertEqual(answers(calls), wanted)

    def test_whole_numbers_in_a_list_come_back(self):
        sheet = begin(2, [1, 2, 3, 4])
        found = answers(joined(PIECES, sheet, would(0), take(0), take(0), PIECES, fewest(9), fewest(90), ways(4),
                               LOOK, blocks(1), blocks(9), strips(2), strips(9), two(2, 3), two(9, 9), buy(4), buy(9),
                               VALUES, LOOK))
        self.assertIs(type(found), list)
        self.assertEqual({type(number) for number in found}, {int})

    def test_60_calls(self):
        calls = [begin(4, range(1, 10))] + [begin(4, [1, 2, 3, 4, 5, 6, 7, 8, 9, 1, 2, 3])]
        calls += [fewest(20), ways(20), PIECES, would(0, 1)] * 14
        calls += [take(0), take(0)]
        self.assertEqual(len(calls), 60)
        found = ask(*calls)
        self.assertEqual(found[:2], [[-1], [0]])
        for behind in range(6, 58, 4):
            self.assertEqual(found[behind:behind + 4], found[2:6])
        self.assertEqual(found[58:], [[1, 2], [-2]])

    def test_60_calls_with_takes_between(self):
        sheet = begin(6, [1] * 12)
        round_about = [sheet] + [call for place in range(12) for call in (take(place), ways(1))]
        calls = round_about + round_about + [sheet] + [PIECES] * 9
        self.assertEqual(len(calls), 60)
        found = ask(*calls)
        self.assertEqual(found[:25], found[25:50])
        self.assertEqual(found[2:25:2], [[left] for left in range(11, -1, -1)])
        self.assertEqual(found[50:], [[0]] + [[1, 12] + list(range(12))] * 9)

    def test_all_twelve_calls_in_one_list_of_60(self):
        self.assertEqual(len(TWELVE_TIMES_FIVE), 60)
        for name in WRITTEN:
            self.assertEqual(len([call for call in TWELVE_TIMES_FIVE if call[0] == name]), 5, name)
        written = [WRITTEN[name](*handed) for name, *handed in TWELVE_TIMES_FIVE]
        self.assertEqual(ask(*written), plain_answers(TWELVE_TIMES_FIVE))
        calls = joined(*written)
        first = answers(Unchangeable(calls))
        self.assertEqual(calls, joined(*written))
        self.assertEqual(answers(calls), first)

    def test_60_begins(self):
        calls = [begin(4, [1] * 12)] * 59 + [ways(12)]
        self.assertEqual(ask(*calls), [[0]] * 59 + [[1]])

    def test_the_longest_list(self):
        calls = [begin(9, [20] * 14)] * 60
        self.assertEqual(len(joined(*calls)), 1020)
        self.assertEqual(ask(*calls), [[-1]] * 60)
        calls = [begin(1, [1])] + [take(*[20] * 14)] * 59
        self.assertEqual(ask(*calls), [[0]] + [[-2]] * 59)


class NothingIsKeptOrChanged(unittest.TestCase):
    CALLS = joined(begin(3, [1, 2, 3, 4, 5, 6]), take(1), would(0), PIECES, fewest(5), ways(9), take(9), take(0, 5),
                   blocks(2), strips(2), two(5, 3), two(5, 99), buy(6), buy(99), VALUES, LOOK)

    def test_the_list_handed_in_is_afterwards_as_it_was(self):
        calls = list(self.CALLS)
        answers(calls)
        self.assertEqual(calls, self.CALLS)

    def test_the_list_handed_in_is_not_changed_for_a_while_either(self):
        self.assertEqual(answers(Unchangeable(self.CALLS)), answers(list(self.CALLS)))

    def test_two_uses_do_not_know_of_each_other(self):
        first = answers(list(self.CALLS))
        self.assertEqual(answers([3]), [1, -9])
        self.assertEqual(answers([1, 1, 0]), [1, -9])
        self.assertEqual(answers([11]), [1, -9])
        self.assertEqual(answers(list(self.CALLS)), first)

    def test_what_came_back_is_not_used_again(self):
        first = answers(list(self.CALLS))
        kept = list(first)
        first.clear()
        self.assertEqual(answers(list(self.CALLS)), kept)

    def test_it_prints_reads_and_imports_nothing(self):
        out, err = io.StringIO(), io.StringIO()
        refuse = mock.Mock(side_effect=AssertionError("not asked for"))
        with contextlib.redirect_stdout(out), contextlib.redirect_stderr(err):
            with mock.patch.object(builtins, "open", refuse), mock.patch.object(builtins, "input", refuse):
                with mock.patch.object(builtins, "__import__", refuse):
                    answers(list(self.CALLS))
        self.assertEqual((out.getvalue(), err.getvalue()), ("", ""))


if __name__ == "__main__":
    unittest.main()
