"""Answers a list of calls on a sheet of stamps.

Some stamps are kept as one whole number, whose bit k says whether the stamp at place k is among them:
so two such lots are joined, compared and taken from one another in one step each. What is called
around is a list: for each place the neighbours that it has on the whole sheet.
"""

BEGIN = 0
TAKE = 1
WOULD = 2
PIECES = 3
FEWEST = 4
WAYS = 5
BLOCKS = 6
STRIPS = 7
TWO = 8
BUY = 9
VALUES = 10
LOOK = 11

# How many whole numbers a call is handed, by the call's number; begin, take and would have a row and stand apart.
HANDED = {3: 0, 4: 1, 5: 1, 6: 1, 7: 1, 8: 2, 9: 1, 10: 0, 11: 0}

NOT_A_SHEET = -1
NOT_THERE = -2
NONE_OF_THAT_VALUE = -6
NOT_A_BLOCK = -7
NO_SHEET = -9

MOST_COLUMNS = 6
MOST_PLACES = 12
MOST_VALUE = 9


def stamps_at(places):
    stamps = 0
    for place in places:
        stamps = stamps | (1 << place)
    return stamps


def places_of(stamps):
    return [place for place in range(stamps.bit_length()) if (stamps >> place) & 1 == 1]


def neighbours_of(place, columns, size):
    near = []
    if place >= columns:
        near.append(place - columns)
    if place % columns > 0:
        near.append(place - 1)
    if place % columns < columns - 1:
        near.append(place + 1)
    if place + columns < size:
        near.append(place + columns)
    return stamps_at(near)


def border_of(around, stamps):
    border = 0
    for place in places_of(stamps):
        border = border | around[place]
    return border & ~stamps


def piece_with(around, stamps, place):
    piece = 0
    grown = stamps_at([place])
    while grown != piece:
        piece = grown
        grown = piece | (border_of(around, piece) & stamps)
    return piece


# The lowest place left begins each piece, so the pieces come in the order of their first stamps.
def pieces_of(around, stamps):
    found = []
    left = stamps
    while left != 0:
        piece = piece_with(around, left, places_of(left)[0])
        found.append(piece)
        left = left & ~piece
    return found


def is_block(around, stamps):
    return len(pieces_of(around, stamps)) == 1


def rank(stamps):
    places = places_of(stamps)
    return (len(places), places)


# A block of more than one stamp always has one without which the rest still hangs together,
# so growing smaller blocks by one bordering stamp reaches every block.
def all_blocks(around):
    found = []
    grown = [stamps_at([place]) for place in range(len(around))]
    while len(grown) > 0:
        found.extend(grown)
        larger = {}
        for block in grown:
            for place in places_of(border_of(around, block)):
                larger[block | stamps_at([place])] = True
        grown = list(larger)
    return sorted(found, key=rank)


class Sheet:
    def __init__(self, columns, worth):
        size = len(worth)
        self.columns = columns
        self.worth = worth
        self.around = [neighbours_of(place, columns, size) for place in range(size)]
        # Taking stamps makes no new blocks, so those of the whole sheet are found once.
        self.whole_blocks = all_blocks(self.around)
        self.there = stamps_at(list(range(size)))
        self.taken_value = 0
        self.taken_tears = 0


def value_of(sheet, stamps):
    return sum([sheet.worth[place] for place in places_of(stamps)])


def tears_from(sheet, block, rest):
    return sum([len(places_of(sheet.around[place] & rest)) for place in places_of(block)])


def tears_of(sheet, block):
    return tears_from(sheet, block, sheet.there & ~block)


# What is torn between the two is torn with the first, and not once more with the second.
def tears_of_pair(sheet, pair):
    rest = sheet.there & ~(pair[0] | pair[1])
    return tears_of(sheet, pair[0]) + tears_from(sheet, pair[1], rest)


# In the order of the whole sheet's blocks: of any two, the first comes first.
def blocks_there(sheet):
    return [block for block in sheet.whole_blocks if (block & sheet.there) == block]


def blocks_worth(sheet, value):
    return [block for block in blocks_there(sheet) if value_of(sheet, block) == value]


def blocks_of_so_many(sheet, many):
    return [block for block in blocks_there(sheet) if len(places_of(block)) == many]


# By their first blocks, and of one first block by their second ones: of any two pairs, the first comes first.
def pairs_worth(sheet, one, other):
    seconds = blocks_worth(sheet, other)
    found = []
    for first in blocks_worth(sheet, one):
        found.extend([(first, second) for second in seconds if (first & second) == 0])
    return found


def is_strip(sheet, block):
    places = places_of(block)
    rows = [place // sheet.columns for place in places]
    columns = [place % sheet.columns for place in places]
    return min(rows) == max(rows) or min(columns) == max(columns)


def tear_off(sheet, block):
    sheet.taken_value = sheet.taken_value + value_of(sheet, block)
    sheet.taken_tears = sheet.taken_tears + tears_of(sheet, block)
    sheet.there = sheet.there & ~block


def told(stamps):
    places = places_of(stamps)
    return [len(places)] + places


def is_sheet(columns, values):
    if columns < 1 or columns > MOST_COLUMNS:
        return False
    if len(values) < 1 or len(values) > MOST_PLACES:
        return False
    if len(values) % columns != 0:
        return False
    return min(values) >= 1 and max(values) <= MOST_VALUE


def are_there(sheet, places):
    if len(set(places)) < len(places):
        return False
    stamps = stamps_at(places)
    return (stamps & sheet.there) == stamps


class Desk:
    def __init__(self):
        self.sheet = None


def begin(desk, columns, values):
    if not is_sheet(columns, values):
        return [NOT_A_SHEET]
    desk.sheet = Sheet(columns, values)
    return [0]


def would(sheet, places):
    if not are_there(sheet, places):
        return [NOT_THERE]
    block = stamps_at(places)
    if not is_block(sheet.around, block):
        return [NOT_A_BLOCK]
    left = pieces_of(sheet.around, sheet.there & ~block)
    return [value_of(sheet, block), tears_of(sheet, block), len(left)]


def take(sheet, places):
    answer = would(sheet, places)
    if answer[0] < 0:
        return answer
    tear_off(sheet, stamps_at(places))
    return answer[:2]


def pieces(sheet):
    found = pieces_of(sheet.around, sheet.there)
    answer = [len(found)]
    for piece in found:
        answer.extend(told(piece))
    return answer


def fewest(sheet, value):
    found = blocks_worth(sheet, value)
    if len(found) == 0:
        return [NONE_OF_THAT_VALUE]
    # Of several with as few tears min keeps the one that comes first.
    block = min(found, key=lambda each: tears_of(sheet, each))
    return [tears_of(sheet, block)] + told(block)


def ways(sheet, value):
    return [len(blocks_worth(sheet, value))]


def blocks(sheet, many):
    return [len(blocks_of_so_many(sheet, many))]


def strips(sheet, many):
    return [len([block for block in blocks_of_so_many(sheet, many) if is_strip(sheet, block)])]


def two(sheet, one, other):
    found = pairs_worth(sheet, one, other)
    if len(found) == 0:
        return [NONE_OF_THAT_VALUE]
    pair = min(found, key=lambda each: tears_of_pair(sheet, each))
    return [tears_of_pair(sheet, pair)] + told(pair[0]) + told(pair[1])


def buy(sheet, value):
    answer = fewest(sheet, value)
    if answer[0] < 0:
        return answer
    tear_off(sheet, stamps_at(answer[2:]))
    return answer


def values_there(sheet):
    found = sorted(set([value_of(sheet, block) for block in blocks_there(sheet)]))
    return [len(found)] + found


def look(sheet):
    size = len(sheet.worth)
    shown = [value_of(sheet, sheet.there & stamps_at([place])) for place in range(size)]
    return [sheet.taken_value, sheet.taken_tears, sheet.columns, size] + shown


class Reader:
    def __init__(self, numbers):
        self.numbers = numbers
        self.at = 0

    def is_done(self):
        return self.at >= len(self.numbers)

    def one(self):
        number = self.numbers[self.at]
        self.at = self.at + 1
        return number

    def several(self, many):
        numbers = self.numbers[self.at:self.at + many]
        self.at = self.at + many
        return numbers

    def row(self):
        return self.several(self.one())


def sheet_answer(sheet, call, handed):
    if call == TAKE:
        return take(sheet, handed)
    if call == WOULD:
        return would(sheet, handed)
    if call == PIECES:
        return pieces(sheet)
    if call == FEWEST:
        return fewest(sheet, handed[0])
    if call == WAYS:
        return ways(sheet, handed[0])
    if call == BLOCKS:
        return blocks(sheet, handed[0])
    if call == STRIPS:
        return strips(sheet, handed[0])
    if call == TWO:
        return two(sheet, handed[0], handed[1])
    if call == BUY:
        return buy(sheet, handed[0])
    if call == VALUES:
        return values_there(sheet)
    return look(sheet)


def handed_over(reader, call):
    if call == TAKE or call == WOULD:
        return reader.row()
    return reader.several(HANDED[call])


def next_answer(desk, reader):
    call = reader.one()
    if call == BEGIN:
        columns = reader.one()
        return begin(desk, columns, reader.row())
    # Without a sheet too, what the call is handed must be read over to come to the next call.
    handed = handed_over(reader, call)
    if desk.sheet is None:
        return [NO_SHEET]
    return sheet_answer(desk.sheet, call, handed)


def answers(calls):
    desk = Desk()
    reader = Reader(calls)
    numbers = []
    while not reader.is_done():
        answer = next_answer(desk, reader)
        numbers.append(len(answer))
        numbers.extend(answer)
    return numbers
