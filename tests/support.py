"""What the tests write calls with and read answers by."""

from stampsheetdesk.tears import answers

PIECES = [3]
VALUES = [10]
LOOK = [11]


def begin(columns, values):
    return [0, columns, len(values)] + list(values)


def take(*stamps):
    return [1, len(stamps)] + list(stamps)


def would(*stamps):
    return [2, len(stamps)] + list(stamps)


def fewest(value):
    return [4, value]


def ways(value):
    return [5, value]


def blocks(many):
    return [6, many]


def strips(many):
    return [7, many]


def two(one, other):
    return [8, one, other]


def buy(value):
    return [9, value]


WRITTEN = {
    "begin": begin,
    "take": lambda stamps: take(*stamps),
    "would": lambda stamps: would(*stamps),
    "pieces": lambda: PIECES,
    "fewest": fewest,
    "ways": ways,
    "blocks": blocks,
    "strips": strips,
    "two": two,
    "buy": buy,
    "values": lambda: VALUES,
    "look": lambda: LOOK,
}


def split(numbers):
    """Each call's answer, out of the one list of all."""
    found = []
    at = 0
    while at < len(numbers):
        many = numbers[at]
        answer = numbers[at + 1:at + 1 + many]
        if many < 1 or len(answer) < many:
            raise AssertionError(f"answers of a wrong form: {numbers}")
        found.append(answer)
        at += 1 + many
    return found


def ask(*calls):
    """The answers to these calls, a list for each call."""
    found = split(answers([number for call in calls for number in call]))
    if len(found) != len(calls):
        raise AssertionError(f"{len(calls)} calls, {len(found)} answers")
    return found


def last(*calls):
    return ask(*calls)[-1]
