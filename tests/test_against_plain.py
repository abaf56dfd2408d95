"""Many lists of calls, answered by the program and by the plain words alike."""

import random
import unittest

from tests import support
from tests.plain import plain_answers
from tests.support import ask

WRITTEN = {
    "begin": support.begin,
    "take": lambda stamps: support.take(*stamps),
    "would": lambda stamps: support.would(*stamps),
    "pieces": lambda: support.PIECES,
    "fewest": support.fewest,
    "ways": support.ways,
}


def some_begin(source, most):
    if source.random() < 0.2:
        return ("begin", source.randint(0, 9), [source.randint(0, 20) for place in range(source.randint(0, 14))])
    columns = source.randint(1, min(6, most))
    rows = source.randint(1, most // columns)
    high = source.choice((1, 2, 3, 9))
    return ("begin", columns, [source.randint(1, high) for place in range(columns * rows)])


def some_stamps(source, columns):
    """Mostly a walk from neighbour to neighbour, so that blocks come up often."""
    if source.random() < 0.3:
        return [source.randint(0, 20) for place in range(source.randint(0, 14))]
    stamps = [source.randint(0, 11)]
    for step in range(source.randint(0, 5)):
        place = source.choice(stamps) + source.choice((1, -1, columns, -columns))
        if 0 <= place <= 11 and place not in stamps:
            stamps.append(place)
    source.shuffle(stamps)
    return stamps


def some_calls(source, many, most):
    calls = [some_begin(source, most)]
    while len(calls) < many:
        name = source.choice(("take", "take", "would", "pieces", "fewest", "ways"))
        if source.random() < 0.05:
            calls.append(some_begin(source, most))
        elif name in ("take", "would"):
            calls.append((name, some_stamps(source, calls[0][1])))
        elif name == "pieces":
            calls.append((name,))
        else:
            calls.append((name, source.randint(0, 20)))
    return calls


class AgainstThePlainWords(unittest.TestCase):
    def check(self, calls):
        written = [WRITTEN[name](*handed) for name, *handed in calls]
        self.assertEqual(ask(*written), plain_answers(calls), calls)

    def test_small_sheets(self):
        source = random.Random(1)
        for turn in range(150):
            self.check(some_calls(source, 30, 6))

    def test_sheets_of_any_size(self):
        source = random.Random(2)
        for turn in range(25):
            self.check(some_calls(source, 20, 12))

    def test_every_value_of_full_sheets(self):
        source = random.Random(3)
        for columns in (1, 2, 3, 4, 6):
            calls = [("begin", columns, [source.randint(1, 3) for place in range(12)])]
            for value in (0, 1, 2, 3, 7, 12, 20, 36):
                calls += [("ways", value), ("fewest", value)]
            self.check(calls)


if __name__ == "__main__":
    unittest.main()
