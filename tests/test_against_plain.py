"""Many lists of calls, answered by the program and by the plain words alike."""

import random
import unittest

from tests.plain import plain_answers
from tests.support import WRITTEN, ask


def some_begin(source, most):
    if source.random() < 0.2:
        return ("begin", source.randint(0, 9), [source.randint(0, 20) for place in range(source.randint(0, 14))])
    columns = source.randint(1, min(6, most))
    rows = source.randint(1, most // columns)
    high = source.choice((1, 2, 3, 9))
    return ("begin", columns, [source.randint(1, high) for place in range(columns * rows)])


def some_stamps(source, columns):
    """Mostly a walk from neighbour to neighbour, so that blocks come up often."""
    if source.random() < 0.3:
        return [source.randint(0, 20) for place in range(source.randint(0, 14))]
    stamps = [source.randint(0, 11)]
    for step in range(source.randint(0, 5)):
        place = source.choice(stamps) + source.choice((1, -1, columns, -columns))
        if 0 <= place <= 11 and place not in stamps:
            stamps.append(place)
    source.shuffle(stamps)
    return stamps


def some_calls(source, many, most):
    calls = [some_begin(source, most)]
    while len(calls) < many:
        name = source.choice(("take", "take", "would", "pieces", "fewest", "ways", "blocks", "strips", "two", "two",
                              "buy", "values", "look"))
        if source.random() < 0.05:
            calls.append(some_begin(source, most))
        elif name in ("take", "would"):
            calls.append((name, some_stamps(source, calls[0][1])))
        elif name in ("pieces", "values", "look"):
            calls.append((name,))
        elif name == "two":
            calls.append((name, source.randint(0, 12), source.randint(0, 12)))
        elif name in ("blocks", "strips"):
            calls.append((name, source.choice((0, 1, 2, 3, 4, 5, 6, 12, 20))))
        else:
            calls.append((name, source.randint(0, 20)))
    return calls


class AgainstThePlainWords(unittest.TestCase):
    def check(self, calls):
        written = [WRITTEN[name](*handed) for name, *handed in calls]
        self.assertEqual(ask(*written), plain_answers(calls), calls)

    def test_small_sheets(self):
        source = random.Random(1)
        for turn in range(150):
            self.check(some_calls(source, 30, 6))

    def test_sheets_of_any_size(self):
        source = random.Random(2)
        for turn in range(25):
            self.check(some_calls(source, 20, 12))

    def test_every_value_of_full_sheets(self):
        source = random.Random(3)
        for columns in (1, 2, 3, 4, 6):
            calls = [("begin", columns, [source.randint(1, 3) for place in range(12)])]
            for value in (0, 1, 2, 3, 7, 12, 20, 36):
                calls += [("ways", value), ("fewest", value)]
            self.check(calls)

    def test_every_count_of_full_sheets(self):
        for columns in (1, 2, 3, 4, 6):
            calls = [("begin", columns, [1] * 12), ("take", [5])]
            for many in (0, 1, 2, 3, 4, 6, 11, 12):
                calls += [("blocks", many), ("strips", many)]
            self.check(calls)

    def test_pairs_of_small_sheets(self):
        source = random.Random(4)
        for columns, places in ((1, 5), (2, 6), (3, 6), (6, 6), (2, 8), (3, 9)):
            calls = [("begin", columns, [source.randint(1, 2) for place in range(places)])]
            calls += [("two", one, other) for one in (1, 2, 3, 4) for other in (1, 2, 3, 5)]
            self.check(calls)


if __name__ == "__main__":
    unittest.main()
