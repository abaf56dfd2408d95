"""The document's words once more, as slow and plain as can be, to hold the program against.

It shares nothing with the program: a place is a row and a column here, stamps are a set of places,
and blocks are found by trying every choice of stamps.
"""

from itertools import combinations


class PlainSheet:
    def __init__(self, columns, values):
        self.columns = columns
        self.stamps = dict(enumerate(values))

    def near(self, one, other):
        down = abs(one // self.columns - other // self.columns)
        across = abs(one % self.columns - other % self.columns)
        return down + across == 1

    def pieces(self, places):
        """Joins single places into lots until no two lots touch."""
        lots = [{place} for place in sorted(places)]
        joined = True
        while joined:
            joined = False
            for one, other in combinations(lots, 2):
                if any(self.near(a, b) for a in one for b in other):
                    lots.remove(other)
                    one |= other
                    joined = True
                    break
        return sorted(sorted(lot) for lot in lots)

    def value(self, places):
        return sum(self.stamps[place] for place in places)

    def tears(self, places):
        rest = set(self.stamps) - set(places)
        return sum(1 for a in places for b in rest if self.near(a, b))

    def blocks(self):
        there = sorted(self.stamps)
        for many in range(1, len(there) + 1):
            for places in combinations(there, many):
                if len(self.pieces(places)) == 1:
                    yield list(places)

    def refusal(self, places):
        if len(set(places)) < len(places) or not set(places) <= set(self.stamps):
            return -2
        if len(self.pieces(places)) != 1:
            return -7
        return None


def plain_begin(columns, values):
    good = 1 <= columns <= 6 and 1 <= len(values) <= 12 and len(values) % columns == 0
    if good and all(1 <= value <= 9 for value in values):
        return PlainSheet(columns, values)
    return None


def plain_taken(sheet, places, leave):
    refusal = sheet.refusal(places)
    if refusal is not None:
        return [refusal]
    answer = [sheet.value(places), sheet.tears(places)]
    if leave:
        return answer + [len(sheet.pieces(set(sheet.stamps) - set(places)))]
    for place in places:
        del sheet.stamps[place]
    return answer


def plain_pieces(sheet):
    found = sheet.pieces(sheet.stamps)
    answer = [len(found)]
    for piece in found:
        answer += [len(piece)] + piece
    return answer


def plain_fewest(sheet, value):
    found = [(sheet.tears(block), len(block), block) for block in sheet.blocks() if sheet.value(block) == value]
    if not found:
        return [-6]
    tears, many, block = min(found)
    return [tears, many] + block


def plain_answers(calls):
    """calls: of each its name and what it is handed, as ("take", [0, 1])."""
    sheet = None
    found = []
    for name, *handed in calls:
        if name == "begin":
            began = plain_begin(*handed)
            sheet = began or sheet
            found.append([0] if began else [-1])
        elif sheet is None:
            found.append([-9])
        elif name in ("take", "would"):
            found.append(plain_taken(sheet, handed[0], name == "would"))
        elif name == "pieces":
            found.append(plain_pieces(sheet))
        elif name == "fewest":
            found.append(plain_fewest(sheet, handed[0]))
        else:
            found.append([sum(1 for block in sheet.blocks() if sheet.value(block) == handed[0])])
    return found
