"""Sheets, expressions, points, boxes and forks that the tests make themselves.

A Maker draws from a fixed sequence, so that each run tests the same things.
"""

from itertools import product

from tests.reckoning import Reckoner
from whysheets.faults import is_sound
from whysheets.forks import fork_from
from whysheets.names import reads, start_reads
from whysheets.written import as_sheet


class Maker:
    """Draws numbers from a sequence that a seed begins."""

    def __init__(self, seed):
        self.state = (seed * 2654435761 + 12345) % (1 << 32)

    def below(self, count):
        self.state = (self.state * 1664525 + 1013904223) % (1 << 32)
        return (self.state >> 8) * count >> 24

    def number(self, low, high):
        return low + self.below(high - low + 1)

    def one_of(self, things):
        return things[self.below(len(things))]

    def chance(self, one_in):
        return self.below(one_in) == 0

    def shuffled(self, things):
        left = list(things)
        found = []
        while left:
            found.append(left.pop(self.below(len(left))))
        return found

    # Expressions by form alone: names need not be there.

    def wild(self, deep, in_row=True):
        word = self.one_of(LEAVES if deep <= 1 else LEAVES + INNER * 3)
        if word in ("place", "at") and not in_row:
            word = "number"
        part = lambda: self.wild(deep - 1, in_row)
        if word == "number":
            return ("number", self.one_of((-999, -7, -1, 0, 1, 2, 5, 999)))
        if word == "place":
            return ("place",)
        if word in ("name", "sum", "fewest", "most"):
            return (word, self.one_of(NAMES))
        if word == "item":
            return ("item", self.one_of(NAMES), self.number(1, 9))
        if word == "at":
            return ("at", self.one_of(NAMES), self.number(-3, 3), part())
        if word == "cases":
            numbers = sorted({self.number(-3, 9) for _ in range(self.number(1, 3))})
            return ("cases", part(), tuple((n, part()) for n in numbers), part())
        counts = {"not": 1, "choose": 3}
        return (word,) + tuple(part() for _ in range(counts.get(word, 2)))

    def wild_cell(self, deep):
        word = self.one_of(("cell", "row", "settle"))
        name = self.one_of(NAMES)
        if word == "cell":
            return ("cell", name, self.wild(deep, False))
        if word == "row":
            return ("row", name, self.number(1, 9), self.wild(deep, True))
        low = self.number(-5, 5)
        return ("settle", name, low, low + self.number(0, 9), self.wild(deep - 1, False), self.wild(deep, False))

    def wild_sheet(self, deep=3):
        inputs = []
        for _ in range(self.number(1, 3)):
            low = self.number(-5, 5)
            inputs.append(("input", self.one_of(NAMES), low, low + self.number(0, 4)))
        return ("sheet", tuple(inputs), tuple(self.wild_cell(deep) for _ in range(self.number(1, 4))))

    # Sound sheets.

    def sheet(self, cells=6, inputs=3, widest=3, settling=2):
        """A sound sheet with rows and settling cells, its cells in any order."""
        told = []
        for name in self.shuffled("mnpqu")[:inputs]:
            low = self.number(-2, 1)
            told.append(("input", name, low, low + self.number(0, widest - 1)))
        while True:
            found = self.some_cells([one[1] for one in told], cells, settling)
            sheet = ("sheet", tuple(told), tuple(self.shuffled(found)))
            if is_sound(sheet):
                return sheet

    def table_sheet(self, names=3, widest=3, most=2, open_in=10 ** 6):
        """A sheet whose last cell, called out, has any worths at the points."""
        order = self.order(names, widest)
        return as_sheet(fork_from(order, self.worths(order, most, open_in)), "out")

    def some_cells(self, inputs, cells, settling):
        sight = Sight(inputs)
        found = []
        names = self.shuffled("abcdefghijkl")
        while len(found) < cells:
            name = names.pop()
            word = self.one_of(("cell", "cell", "truth", "row") + ("settle",) * settling)
            if word == "settle":
                ring = [name] + [names.pop() for _ in range(self.below(3))]
                found.extend(self.some_ring(sight, ring))
            elif word == "row":
                count = self.number(1, 4)
                kind = "truth" if self.chance(5) else "number"
                row = ("row", name, count, self.typed(sight, kind, 3, (name, count, kind)))
                sight.rows[kind].append((name, count))
                found.append(row)
            else:
                kind = "truth" if word == "truth" else "number"
                found.append(("cell", name, self.typed(sight, kind, 3, None)))
                sight.names[kind].append(name)
        return found

    def some_ring(self, sight, ring):
        starts = [self.typed(sight, "number", 1, None) for _ in ring]
        inner = Sight(sight.names["number"] + ring * 2)
        inner.names["truth"] = sight.names["truth"]
        inner.rows = sight.rows
        found = []
        for k, cell in enumerate(ring):
            low = self.number(-1, 1)
            expression = self.typed(inner, "number", 3, None)
            found.append(("settle", cell, low, low + self.number(0, 4), starts[k], expression))
        sight.names["number"].extend(ring)
        return found

    def typed(self, sight, kind, deep, row):
        """An expression of a kind; row is (name, count, kind) within a row's expression."""
        if kind == "truth":
            return self.truth(sight, deep, row)
        if deep <= 1 or self.chance(5):
            return self.small_number(sight, row)
        part = lambda: self.typed(sight, "number", deep - 1, row)
        word = self.one_of(("plus", "minus", "times", "least", "greatest", "choose", "choose", "cases", "at"))
        if word == "at":
            if row is None or row[2] != "number":
                return part()
            return ("at", row[0], -self.number(1, 2), part())
        if word == "choose":
            return ("choose", self.truth(sight, deep - 1, row), part(), part())
        if word == "cases":
            numbers = sorted({self.number(-1, 3) for _ in range(self.number(1, 3))})
            return ("cases", part(), tuple((n, part()) for n in numbers), part())
        return (word, part(), part())

    def small_number(self, sight, row):
        choices = [("number", self.number(-2, 3))]
        choices.extend([("name", name) for name in sight.names["number"]] * 2)
        for name, count in sight.rows["number"]:
            choices.append((self.one_of(("sum", "fewest", "most")), name))
            choices.append(("item", name, self.number(1, count)))
        if row is not None:
            choices.append(("place",))
        return self.one_of(choices)

    def truth(self, sight, deep, row):
        if deep <= 1 or self.chance(6):
            choices = [("name", name) for name in sight.names["truth"]]
            choices.extend([("item", name, self.number(1, count)) for name, count in sight.rows["truth"]])
            choices.append(("less", self.small_number(sight, row), self.small_number(sight, row)))
            return self.one_of(choices)
        part = lambda: self.truth(sight, deep - 1, row)
        word = self.one_of(("less", "atmost", "same", "not", "and", "or", "choose", "at"))
        if word == "at":
            if row is None or row[2] != "truth":
                return part()
            return ("at", row[0], -1, part())
        if word == "not":
            return ("not", part())
        if word == "choose":
            return ("choose", part(), part(), part())
        if word in ("and", "or"):
            return (word, part(), part())
        number = lambda: self.typed(sight, "number", deep - 1, row)
        return (word, number(), number())

    # Boxes and forks.

    def box(self, sheet):
        found = {}
        for _, name, low, high in sheet[1]:
            numbers = [n for n in range(low, high + 1) if self.chance(2)]
            found[name] = tuple(numbers or [self.number(low, high)])
        return found

    def inner_box(self, box):
        found = {}
        for name in box:
            numbers = [n for n in box[name] if self.chance(2)]
            found[name] = tuple(numbers or [self.one_of(box[name])])
        return found

    def point(self, sheet):
        return {name: self.number(low, high) for _, name, low, high in self.shuffled(sheet[1])}

    def prices(self, sheet, most=3):
        return {one[1]: self.number(1, most) for one in self.shuffled(sheet[1])}

    def wish(self, sheet, spots=None):
        """A wish for a spot of a cell, for worths that it has at some points more often than not."""
        inputs = [one[1] for one in sheet[1]]
        spot = self.one_of(spots or [one for one in all_spots(sheet) if one not in inputs])
        worths = {Reckoner(sheet, self.point(sheet)).worth(spot) for _ in range(self.number(1, 3))}
        if self.chance(4):
            worths.add(self.one_of((None, 0, 1, 2, -1)))
        return (spot, tuple(sorted(worths, key=worth_rank)), not self.chance(2))

    def claim(self, sheet, wishes=2):
        told = tuple(self.wish(sheet) for _ in range(self.number(1, wishes)))
        far = (self.point(sheet), self.prices(sheet), self.number(0, 6)) if self.chance(2) else None
        return (told, far)

    def order(self, names=3, widest=3):
        found = []
        for name in self.shuffled("xyzvw")[:names]:
            low = self.number(-2, 2)
            found.append((name, low, low + self.number(0, widest - 1)))
        return tuple(found)

    def worths(self, order, most=3, open_in=8):
        """Worths for all points of an order; names matter less and less often."""
        idle = [k for k in range(len(order)) if self.chance(4)]
        known = {}
        found = []
        for numbers in order_points(order):
            key = tuple(n for k, n in enumerate(numbers) if k not in idle)
            if key not in known:
                known[key] = None if self.chance(open_in) else self.number(-1, most - 1)
            found.append(known[key])
        return found


class Sight:
    """The names that an expression may have."""

    def __init__(self, numbers):
        self.names = {"number": list(numbers), "truth": []}
        self.rows = {"number": [], "truth": []}


NAMES = ("a", "b", "c", "r", "s", "n")
LEAVES = ("number", "name", "item", "place", "sum", "fewest", "most")
INNER = ("at", "plus", "minus", "times", "least", "greatest", "less", "atmost", "same",
         "not", "and", "or", "choose", "cases")


def order_points(order):
    """All points of an order, as tuples of numbers."""
    return list(product(*[range(low, high + 1) for _, low, high in order]))


def all_points(sheet):
    """All points of a sheet, ascending."""
    inputs = sorted(sheet[1], key=lambda one: one[1])
    ranges = [range(low, high + 1) for _, _, low, high in inputs]
    return [dict(zip([one[1] for one in inputs], numbers)) for numbers in product(*ranges)]


def all_spots(sheet):
    """All spots of a sheet without faults, ascending."""
    names = [one[1] for one in sheet[1]] + [one[1] for one in sheet[2] if one[0] != "row"]
    items = [(one[1], k) for one in sheet[2] if one[0] == "row" for k in range(1, one[2] + 1)]
    return sorted(names) + sorted(items)


def spot_order(spot):
    """Names ahead of pairs."""
    return (1, spot) if isinstance(spot, tuple) else (0, (spot,))


def steps_of(sheet):
    """From each spot to those that it reads, the start of a settling cell included."""
    settling = [one[1] for one in sheet[2] if one[0] == "settle"]
    found = {}
    for spot in all_spots(sheet):
        found[spot] = list(reads(sheet, spot))
        if spot in settling:
            found[spot] += start_reads(sheet, spot)
    return found


class Odd:
    """A value of no kind that the document knows, equal to everything and without a hash."""

    def __eq__(self, other):
        return True


def odd_values():
    """Values that are no sheet, spot, point, box, fork or anything else."""
    return [
        None, True, False, 0, 1, -5, "", "a", "sheet", "Abc", b"a", (), [], {}, (1,), ("a",), [1, 2], {"a": 1},
        {1: 2}, {None: None}, (True, False), ("number", True), ("number",), ("name", "if"), ("sheet", (), ()),
        ("sheet", [], []), ("fork", (), ()), ("fork", (), []), (None, None), ("r", True), ("r", 0), ((), ()),
        [[]], [None], set(), {"a"}, frozenset(), object(), Odd(), [Odd()], (Odd(), Odd()), ("number", Odd()),
        {"a": Odd()}, len, int, range(3), ("x" * 9,), ("a", "b", "c"), nested(60), Ellipsis,
    ]


def nested(deep):
    """A tuple that lies that deep in tuples."""
    thing = ()
    for _ in range(deep):
        thing = (thing,)
    return thing


# Forks as dicts from the tuples of numbers of their points to worths.


def worth_table(fork):
    """The worths of a fork at all points of its order."""
    nodes = fork[2]
    lows = {name: low for name, low, _ in fork[1]}
    names = [name for name, _, _ in fork[1]]
    found = {}
    for numbers in order_points(fork[1]):
        point = dict(zip(names, numbers))
        node = nodes[0]
        while node[0] != "leaf":
            node = nodes[node[1][point[node[0]] - lows[node[0]]]]
        found[numbers] = node[1]
    return found


def named_point(order, numbers):
    return dict(zip([name for name, _, _ in order], numbers))


def names_in_order(order):
    return [name for name, _, _ in order]


def worth_rank(worth):
    return (worth is None, worth or 0)
