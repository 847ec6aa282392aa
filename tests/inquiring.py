"""Asking told once more: questions, schemes, opponents and the price of asking over explicit boxes."""

from functools import lru_cache

from tests.judging import box_points, wrong_ones
from tests.making import Maker, all_spots
from tests.reckoning import Reckoner
from whysheets.boxes import whole
from whysheets.texts import read_sheet

# The sheet of the document's example.
SHEET = read_sheet("input x from 0 to 2 input y from 0 to 2 cell c = least(x, y) row r of 2 = x * place "
                   "settle o from 0 to 1 start 0 = if x == 2 then 1 - o else o")
ONES = {"x": 1, "y": 1}
WHOLE = whole(SHEET)


def questions_over(box, sides):
    found = []
    for name in sorted(box):
        if len(box[name]) > 1:
            found.append(("number", name))
            if sides is not None:
                found += [("atmost", name, n) for n in box[name][:-1]]
    return found


def behind(box, question):
    """The boxes behind the answers, in order."""
    name = question[1]
    if question[0] == "number":
        return [{**box, name: (n,)} for n in box[name]]
    return [{**box, name: tuple(n for n in box[name] if n <= question[2])}, {**box, name: tuple(n for n in box[name] if n > question[2])}]


def answers(box, question):
    return list(box[question[1]]) if question[0] == "number" else [True, False]


def price_of(question, prices, sides):
    return (prices if question[0] == "number" else sides)[question[1]]


def written(box):
    return tuple(box[name] for name in sorted(box))


class Told:
    """The worths of a spot over a box, and the prices of asking for it."""

    def __init__(self, sheet, box, spot, prices, sides):
        self.names = sorted(box)
        self.box = box
        self.prices = prices
        self.sides = sides
        self.worths = {tuple(point[name] for name in self.names): Reckoner(sheet, point).worth(spot) for point in box_points(box)}
        self.price_over = lru_cache(None)(self.fresh)

    def named(self, rows):
        return dict(zip(self.names, rows))

    def worths_in(self, rows):
        return {self.worths[tuple(point[name] for name in self.names)] for point in box_points(self.named(rows))}

    def price(self, box):
        return self.price_over(written(box))

    def fresh(self, rows):
        if len(self.worths_in(rows)) == 1:
            return 0
        box = self.named(rows)
        return min(self.cost(box, question) for question in questions_over(box, self.sides))

    def cost(self, box, question):
        return price_of(question, self.prices, self.sides) + max(self.price(one) for one in behind(box, question))


def is_scheme(sheet, box, spot, thing):
    """Whether what has the form of a scheme is one, by what it tells."""
    if thing[0] == "known":
        return wrong_ones(sheet, box, (((spot, (thing[1],), False),), None), thing[2]) == []
    boxes = behind(box, thing[1])
    return len(boxes) == len(thing[2]) and all(is_scheme(sheet, one, spot, part) for one, part in zip(boxes, thing[2]))


def trail_at(box, scheme, point):
    found = []
    while scheme[0] == "ask":
        question = scheme[1]
        answer = point[question[1]] if question[0] == "number" else point[question[1]] <= question[2]
        k = answers(box, question).index(answer)
        found.append((question, answer))
        box, scheme = behind(box, question)[k], scheme[2][k]
    return tuple(found)


def is_opponent(told, price, entries):
    bounds = {entry[0]: entry[1] for entry in entries}
    for rows, bound, one, other in entries:
        if told.worths[one] == told.worths[other]:
            return False
        box = told.named(rows)
        for question in questions_over(box, told.sides):
            left = bound - price_of(question, told.prices, told.sides)
            if left > 0 and not any(bounds.get(written(after), 0) >= left for after in behind(box, question)):
                return False
    return price == 0 or bounds.get(written(told.box), 0) >= price


def made_case(seed, names=3, widest=3):
    """A maker, a sheet, a box, a spot, prices and sides."""
    maker = Maker(seed)
    if maker.chance(3):
        sheet = maker.sheet(4, names, 3)
        inputs = [one[1] for one in sheet[1]]
        spot = maker.one_of([one for one in all_spots(sheet) if one not in inputs])
    else:
        sheet, spot = maker.table_sheet(maker.number(1, names), widest, 3, 8), "out"
    box = whole(sheet) if maker.chance(2) else maker.box(sheet)
    prices = maker.prices(sheet, 4)
    return maker, sheet, box, spot, prices, maker.prices(sheet, 2) if maker.chance(2) else None


def bad_prices():
    return [{"x": 1}, {**ONES, "z": 1}, {**ONES, "x": 0}, {**ONES, "x": 1000}, {**ONES, "x": True}, {**ONES, "x": None}, {"x": 1, "z": 1}]
