"""Wishes told once more: what is granted where, quarrels and peaces, by going through all points and all lots."""

from itertools import chain, combinations

from tests.judging import box_points, dear, grants
from tests.making import Maker, odd_values
from tests.playing import made_sheet
from tests.reckoning import Reckoner
from tests.test_plain import FAULTY
from tests.turning import SHEET as VOTE, bad_wish_lists
from whysheets.boxes import whole
from whysheets.errors import BadBox, BadSheet, BadWishes, Faulty
from whysheets.texts import read_sheet

# The document's example.
SHEET = read_sheet("input a from 0 to 1 input b from 0 to 1 input c from 0 to 1 cell s = 1 < a + b + c cell t = a + b cell u = b + c")
WISHES = [("s", (1,), True), ("t", (0,), True), ("u", (2,), False)]
WEIGHTS = (5, 3, 1)
ZERO = {"a": 0, "b": 0, "c": 0}
PRICES = {"a": 1, "b": 2, "c": 3}
WHOLE = whole(SHEET)


def lots_of(count):
    return list(chain.from_iterable(combinations(range(count), k) for k in range(count + 1)))


def least_ones(lots):
    return sorted(lot for lot in lots if not any(set(other) < set(lot) for other in lots))


class Told:
    def __init__(self, sheet, box, wishes):
        self.count = len(wishes)
        self.points = box_points(box)
        self.granted = []
        for point in self.points:
            told = Reckoner(sheet, point)
            self.granted.append(tuple(k for k, wish in enumerate(wishes) if grants(wish, told.worth(wish[0]))))
        self.lots = lots_of(self.count)
        self.quarrels = [lot for lot in self.lots if not any(set(lot) <= set(one) for one in self.granted)]
        self.peaces = [lot for lot in self.lots if any(set(lot) | set(one) == set(range(self.count)) for one in self.granted)]

    def weight(self, granted, weights):
        return sum(weight for k, weight in enumerate(weights) if k not in granted)


def way_to(point, other):
    return tuple((name, other[name]) for name in sorted(point) if other[name] != point[name])


def price_to(point, prices, other):
    return dear(point, prices, other)


def made_case(seed, most=4):
    """A maker, a sheet, a box and wishes of it."""
    maker = Maker(seed)
    sheet, spots = made_sheet(maker)
    box = whole(sheet) if maker.chance(2) else maker.box(sheet)
    return maker, sheet, box, [maker.wish(sheet, spots) for _ in range(maker.number(1, most))]


def bad_boxes():
    return [{"a": (0, 1), "b": (0, 1)}, {**WHOLE, "d": (0,)}, {**WHOLE, "a": ()}, {**WHOLE, "a": (1, 0)}, {**WHOLE, "a": (0, 2)}, {**WHOLE, "a": [0]},
            {**WHOLE, "a": (True,)}, *odd_values()]


def refuses_all(test, function, count):
    """Whether a function of a sheet, a box, wishes and so many more refuses what is wrong, the first one first."""
    more = [None] * count
    for thing in odd_values():
        with test.assertRaises(BadSheet):
            function(thing, None, None, *more)
    with test.assertRaises(Faulty) as caught:
        function(FAULTY, None, None, *more)
    test.assertEqual(caught.exception.fault, ((2, 0, 2), "unknown", "x"))
    for box in bad_boxes():
        with test.assertRaises(BadBox):
            function(SHEET, box, None, *more)
    for wishes, at in bad_wish_lists():
        with test.assertRaises(BadWishes) as caught:
            function(VOTE, WHOLE, wishes, *more)
        test.assertEqual(caught.exception.at, at, wishes)
