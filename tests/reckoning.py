"""Worths told once more: each spot when it is asked for, by the points of part 4 alone."""

from whysheets.names import reads

FOLDS = {"sum": sum, "fewest": min, "most": max}
SIGNS = {
    "plus": lambda a, b: a + b, "minus": lambda a, b: a - b, "times": lambda a, b: a * b,
    "least": min, "greatest": max, "less": lambda a, b: int(a < b), "atmost": lambda a, b: int(a <= b),
    "same": lambda a, b: int(a == b),
}


def rings_of(sheet):
    """The rings, from which settling cells can be reached from which."""
    cells = sorted(cell[1] for cell in sheet[2] if cell[0] == "settle")
    reach = {cell: {one for one in reads(sheet, cell) if one in cells} for cell in cells}
    for _ in cells:
        for cell in cells:
            for one in list(reach[cell]):
                reach[cell] |= reach[one]
    found = {tuple(sorted(one for one in reach[cell] if cell in reach[one])) for cell in cells if cell in reach[cell]}
    return sorted(found)


class Reckoner:
    def __init__(self, sheet, point):
        self.things = {thing[1]: thing for thing in sheet[1] + sheet[2]}
        self.point = point
        self.known = {}
        self.rounds = {}
        self.rings = {cell: ring for ring in rings_of(sheet) for cell in ring}

    def worth(self, spot):
        if spot not in self.known:
            self.known[spot] = self.fresh(spot)
        return self.known[spot]

    def fresh(self, spot):
        thing = self.things[spot[0] if isinstance(spot, tuple) else spot]
        if thing[0] == "input":
            return self.point[spot]
        if thing[0] == "row":
            return self.of(thing[3], spot[1], self.worth)
        if thing[0] == "cell":
            return self.of(thing[2], None, self.worth)
        if spot not in self.rings:
            return self.within(thing, self.of(thing[5], None, self.worth))
        return self.settled(self.rings[spot])[self.rings[spot].index(spot)]

    def within(self, thing, worth):
        return None if worth is None else max(thing[2], min(thing[3], worth))

    def settled(self, ring):
        cells = [self.things[cell] for cell in ring]
        now = tuple(self.within(thing, self.of(thing[4], None, self.worth)) for thing in cells)
        rounds = [now]
        while True:
            told = dict(zip(ring, now))
            look = lambda spot: told[spot] if spot in told else self.worth(spot)
            behind = tuple(self.within(thing, self.of(thing[5], None, look)) for thing in cells)
            if behind == now:
                break
            rounds.append(behind)
            if behind in rounds[:-1]:
                now = tuple(None for _ in ring)
                break
            now = behind
        self.rounds[ring] = rounds
        return now

    def of(self, e, k, look):
        word = e[0]
        if word == "number":
            return e[1]
        if word == "place":
            return k
        if word == "name":
            return look(e[1])
        if word == "item":
            return look((e[1], e[2]))
        if word in FOLDS:
            worths = [look((e[1], j)) for j in range(1, self.things[e[1]][2] + 1)]
            return None if None in worths else FOLDS[word](worths)
        if word == "at":
            j = k + e[2]
            return look((e[1], j)) if 1 <= j <= self.things[e[1]][2] else self.of(e[3], k, look)
        first = self.of(e[1], k, look)
        if word in SIGNS:
            second = self.of(e[2], k, look)
            return None if first is None or second is None else SIGNS[word](first, second)
        if first is None:
            return None
        if word == "not":
            return 1 - first
        if word == "and":
            return self.of(e[2], k, look) if first else 0
        if word == "or":
            return 1 if first else self.of(e[2], k, look)
        if word == "choose":
            return self.of(e[2] if first else e[3], k, look)
        return self.of(dict(e[2]).get(first, e[3]), k, look)


class Spreader:
    """Stretches, told by going through ends: (numbers, may) with the pair of the ends or None."""

    def __init__(self, sheet, box):
        self.things = {thing[1]: thing for thing in sheet[1] + sheet[2]}
        self.box = box
        self.known = {}
        self.turns = {}
        self.rings = {cell: ring for ring in rings_of(sheet) for cell in ring}

    def stretch(self, spot):
        if spot not in self.known:
            self.known[spot] = self.fresh(spot)
        ends, may = self.known[spot]
        return (None, None, True) if ends is None else ends + (may,)

    def look(self, spot):
        self.stretch(spot)
        return self.known[spot]

    def fresh(self, spot):
        thing = self.things[spot[0] if isinstance(spot, tuple) else spot]
        if thing[0] == "input":
            return (min(self.box[spot]), max(self.box[spot])), False
        if thing[0] == "row":
            return self.of(thing[3], spot[1], self.look)
        if thing[0] == "cell":
            return self.of(thing[2], None, self.look)
        if spot in self.rings:
            return self.ring(self.rings[spot])[self.rings[spot].index(spot)]
        return self.within(thing, self.of(thing[5], None, self.look))

    def within(self, thing, told):
        ends, may = told
        return (None if ends is None else tuple(sorted((thing[2], end, thing[3]))[1] for end in ends)), may

    def ring(self, ring):
        cells = [self.things[cell] for cell in ring]

        def after(now):
            told = dict(zip(ring, now))
            look = lambda spot: told[spot] if spot in told else self.look(spot)
            return [self.within(thing, self.of(thing[5], None, look)) for thing in cells]

        turns = [[self.within(thing, self.of(thing[4], None, self.look)) for thing in cells]]
        for _ in range(8):
            turns.append(after(turns[-1]))
        while True:
            wider = [hull(pair) for pair in zip(turns[-1], after(turns[-1]))]
            if wider == turns[-1]:
                break
            turns.append(wider)
        self.turns[ring] = [tuple((None, None, True) if e is None else e + (m,) for e, m in turn) for turn in turns]
        if all((ends is None) == may and (may or ends[0] == ends[1]) for ends, may in turns[-1]):
            return turns[-1]
        return [(ends, True) for ends, _ in turns[-1]]

    def of(self, e, k, look):
        word = e[0]
        if word in ("number", "place"):
            number = k if word == "place" else e[1]
            return (number, number), False
        if word == "name":
            return look(e[1])
        if word == "item":
            return look((e[1], e[2]))
        if word == "at":
            j = k + e[2]
            return look((e[1], j)) if 1 <= j <= self.things[e[1]][2] else self.of(e[3], k, look)
        if word in FOLDS:
            total = look((e[1], 1))
            for j in range(2, self.things[e[1]][2] + 1):
                total = ends_of({"sum": "plus", "fewest": "least", "most": "greatest"}[word], total, look((e[1], j)))
            return total
        first = self.of(e[1], k, look)
        if word in SIGNS:
            return ends_of(word, first, self.of(e[2], k, look))
        ends, may = first
        if word == "not":
            return (None if ends is None else tuple(sorted(1 - end for end in ends))), may
        let = [] if ends is None else range(ends[0], ends[1] + 1)
        found = [(None, True)] if may else []
        if word == "cases":
            numbers = [number for number, _ in e[2]]
            found += [self.of(part, k, look) for number, part in e[2] if number in let]
            if any(number not in numbers for number in let):
                found.append(self.of(e[3], k, look))
            return hull(found)
        if 1 in let:
            found.append(((1, 1), False) if word == "or" else self.of(e[2], k, look))
        if 0 in let:
            found.append(((0, 0), False) if word == "and" else self.of(e[2 if word == "or" else 3], k, look))
        return hull(found)


def ends_of(word, one, other):
    """The ends of what two numbers between ends come to: only ends, and where ranges overlap, matter."""
    may = one[1] or other[1]
    if one[0] is None or other[0] is None:
        return None, may
    firsts = [n for n in one[0] + other[0] if one[0][0] <= n <= one[0][1]]
    seconds = [n for n in one[0] + other[0] if other[0][0] <= n <= other[0][1]]
    found = [SIGNS[word](a, b) for a in firsts for b in seconds]
    return (min(found), max(found)), may


def hull(told):
    ends = [end for pair, _ in told if pair is not None for end in pair]
    return ((min(ends), max(ends)) if ends else None), any(may for _, may in told)
