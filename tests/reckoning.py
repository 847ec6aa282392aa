"""Worths told once more: each spot when it is asked for, by the points of part 4 alone."""

from whysheets.names import reads

FOLDS = {"sum": sum, "fewest": min, "most": max}
SIGNS = {
    "plus": lambda a, b: a + b, "minus": lambda a, b: a - b, "times": lambda a, b: a * b,
    "least": min, "greatest": max, "less": lambda a, b: int(a < b), "atmost": lambda a, b: int(a <= b),
    "same": lambda a, b: int(a == b),
}


def rings_of(sheet):
    """The rings, from which settling cells can be reached from which."""
    cells = sorted(cell[1] for cell in sheet[2] if cell[0] == "settle")
    reach = {cell: {one for one in reads(sheet, cell) if one in cells} for cell in cells}
    for _ in cells:
        for cell in cells:
            for one in list(reach[cell]):
                reach[cell] |= reach[one]
    found = {tuple(sorted(one for one in reach[cell] if cell in reach[one])) for cell in cells if cell in reach[cell]}
    return sorted(found)


class Reckoner:
    def __init__(self, sheet, point):
        self.things = {thing[1]: thing for thing in sheet[1] + sheet[2]}
        self.point = point
        self.known = {}
        self.rounds = {}
        self.rings = {cell: ring for ring in rings_of(sheet) for cell in ring}

    def worth(self, spot):
        if spot not in self.known:
            self.known[spot] = self.fresh(spot)
        return self.known[spot]

    def fresh(self, spot):
        thing = self.things[spot[0] if isinstance(spot, tuple) else spot]
        if thing[0] == "input":
            return self.point[spot]
        if thing[0] == "row":
            return self.of(thing[3], spot[1], self.worth)
        if thing[0] == "cell":
            return self.of(thing[2], None, self.worth)
        if spot not in self.rings:
            return self.within(thing, self.of(thing[5], None, self.worth))
        return self.settled(self.rings[spot])[self.rings[spot].index(spot)]

    def within(self, thing, worth):
        return None if worth is None else max(thing[2], min(thing[3], worth))

    def settled(self, ring):
        cells = [self.things[cell] for cell in ring]
        now = tuple(self.within(thing, self.of(thing[4], None, self.worth)) for thing in cells)
        rounds = [now]
        while True:
            told = dict(zip(ring, now))
            look = lambda spot: told[spot] if spot in told else self.worth(spot)
            behind = tuple(self.within(thing, self.of(thing[5], None, look)) for thing in cells)
            if behind == now:
                break
            rounds.append(behind)
            if behind in rounds[:-1]:
                now = tuple(None for _ in ring)
                break
            now = behind
        self.rounds[ring] = rounds
        return now

    def of(self, e, k, look):
        word = e[0]
        if word == "number":
            return e[1]
        if word == "place":
            return k
        if word == "name":
            return look(e[1])
        if word == "item":
            return look((e[1], e[2]))
        if word in FOLDS:
            worths = [look((e[1], j)) for j in range(1, self.things[e[1]][2] + 1)]
            return None if None in worths else FOLDS[word](worths)
        if word == "at":
            j = k + e[2]
            return look((e[1], j)) if 1 <= j <= self.things[e[1]][2] else self.of(e[3], k, look)
        first = self.of(e[1], k, look)
        if word in SIGNS:
            second = self.of(e[2], k, look)
            return None if first is None or second is None else SIGNS[word](first, second)
        if first is None:
            return None
        if word == "not":
            return 1 - first
        if word == "and":
            return self.of(e[2], k, look) if first else 0
        if word == "or":
            return 1 if first else self.of(e[2], k, look)
        if word == "choose":
            return self.of(e[2] if first else e[3], k, look)
        return self.of(dict(e[2]).get(first, e[3]), k, look)
