"""The document's words once more, as slow and plain as can be, to hold the program against.

It shares nothing with the program: a place is a row and a column here, stamps are a set of places,
and blocks are found by trying every choice of stamps.
"""

from itertools import combinations


class PlainSheet:
    def __init__(self, columns, values):
        self.columns = columns
        self.places = len(values)
        self.stamps = dict(enumerate(values))
        self.taken = 0
        self.torn = 0
        self.known = {}

    def near(self, one, other):
        down = abs(one // self.columns - other // self.columns)
        across = abs(one % self.columns - other % self.columns)
        return down + across == 1

    def pieces(self, places):
        """Joins single places into lots until no two lots touch."""
        lots = [{place} for place in sorted(places)]
        joined = True
        while joined:
            joined = False
            for one, other in combinations(lots, 2):
                if any(self.near(a, b) for a in one for b in other):
                    lots.remove(other)
                    one |= other
                    joined = True
                    break
        return sorted(sorted(lot) for lot in lots)

    def value(self, places):
        return sum(self.stamps[place] for place in places)

    def tears(self, places, gone=()):
        rest = set(self.stamps) - set(places) - set(gone)
        return sum(1 for a in places for b in rest if self.near(a, b))

    def tear_off(self, places):
        self.taken += self.value(places)
        self.torn += self.tears(places)
        for place in places:
            del self.stamps[place]

    def is_strip(self, places):
        rows = {place // self.columns for place in places}
        columns = {place % self.columns for place in places}
        return len(rows) == 1 or len(columns) == 1

    def blocks(self):
        """Found once for each state of the sheet: trying every choice takes long."""
        there = tuple(sorted(self.stamps))
        if there not in self.known:
            choices = [list(places) for many in range(1, len(there) + 1) for places in combinations(there, many)]
            self.known[there] = [places for places in choices if len(self.pieces(places)) == 1]
        return self.known[there]

    def refusal(self, places):
        if len(set(places)) < len(places) or not set(places) <= set(self.stamps):
            return -2
        if len(self.pieces(places)) != 1:
            return -7
        return None


def plain_begin(columns, values):
    good = 1 <= columns <= 6 and 1 <= len(values) <= 12 and len(values) % columns == 0
    if good and all(1 <= value <= 9 for value in values):
        return PlainSheet(columns, values)
    return None


def plain_taken(sheet, places, leave):
    refusal = sheet.refusal(places)
    if refusal is not None:
        return [refusal]
    answer = [sheet.value(places), sheet.tears(places)]
    if leave:
        return answer + [len(sheet.pieces(set(sheet.stamps) - set(places)))]
    sheet.tear_off(places)
    return answer


def plain_pieces(sheet):
    found = sheet.pieces(sheet.stamps)
    answer = [len(found)]
    for piece in found:
        answer += [len(piece)] + piece
    return answer


def plain_fewest(sheet, value):
    found = [(sheet.tears(block), len(block), block) for block in sheet.blocks() if sheet.value(block) == value]
    if not found:
        return [-6]
    tears, many, block = min(found)
    return [tears, many] + block


def plain_buy(sheet, value):
    answer = plain_fewest(sheet, value)
    if answer != [-6]:
        sheet.tear_off(answer[2:])
    return answer


def plain_two(sheet, one, other):
    firsts = [(len(block), block) for block in sheet.blocks() if sheet.value(block) == one]
    seconds = [(len(block), block) for block in sheet.blocks() if sheet.value(block) == other]
    pairs = [(sheet.tears(first[1]) + sheet.tears(second[1], gone=first[1]), first, second)
             for first in firsts for second in seconds if not set(first[1]) & set(second[1])]
    if not pairs:
        return [-6]
    tears, first, second = min(pairs)
    return [tears, first[0]] + first[1] + [second[0]] + second[1]


def plain_values(sheet):
    found = sorted({sheet.value(block) for block in sheet.blocks()})
    return [len(found)] + found


def plain_look(sheet):
    shown = [sheet.stamps.get(place, 0) for place in range(sheet.places)]
    return [sheet.taken, sheet.torn, sheet.columns, sheet.places] + shown


def plain_ways(sheet, value):
    return [sum(1 for block in sheet.blocks() if sheet.value(block) == value)]


def plain_blocks(sheet, many):
    return [sum(1 for block in sheet.blocks() if len(block) == many)]


def plain_strips(sheet, many):
    return [sum(1 for block in sheet.blocks() if len(block) == many and sheet.is_strip(block))]


ANSWERED = {
    "take": lambda sheet, places: plain_taken(sheet, places, False),
    "would": lambda sheet, places: plain_taken(sheet, places, True),
    "pieces": plain_pieces,
    "fewest": plain_fewest,
    "ways": plain_ways,
    "blocks": plain_blocks,
    "strips": plain_strips,
    "two": plain_two,
    "buy": plain_buy,
    "values": plain_values,
    "look": plain_look,
}


def plain_answers(calls):
    """calls: of each its name and what it is handed, as ("take", [0, 1])."""
    sheet = None
    found = []
    for name, *handed in calls:
        if name == "begin":
            began = plain_begin(*handed)
            sheet = began or sheet
            found.append([0] if began else [-1])
        elif sheet is None:
            found.append([-9])
        else:
            found.append(ANSWERED[name](sheet, *handed))
    return found
