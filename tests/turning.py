"""Turns and walls told once more, by going through all lots of moves; and what all of their functions refuse."""

from itertools import chain, combinations

from tests.judging import box_points, grants_all
from tests.making import Maker, Odd, all_points, odd_values
from tests.test_plain import FAULTY
from whysheets.boxes import whole
from whysheets.errors import BadPoint, BadSheet, BadWishes, Faulty, NowSo
from whysheets.texts import read_sheet

# The sheet of the document's example, with a cell that comes again.
SHEET = read_sheet("input a from 0 to 1 input b from 0 to 1 input c from 0 to 1 cell s = 1 < a + b + c "
                   "row r of 2 = a * place settle o from 0 to 1 start 0 = 1 - o")
ZERO = {"a": 0, "b": 0, "c": 0}
WISH = ("s", (1,), True)
PAIRS = [(("a", 1), ("b", 1)), (("a", 1), ("c", 1)), (("b", 1), ("c", 1))]
ALL = (("a", 1), ("b", 1), ("c", 1))
NEVER = ("s", (5,), True)


def moves_at(sheet, point):
    return sorted((name, n) for _, name, low, high in sheet[1] for n in range(low, high + 1) if n != point[name])


def lots_of(moves):
    return list(chain.from_iterable(combinations(moves, k) for k in range(len(moves) + 1)))


def is_way(lot):
    return len({name for name, _ in lot}) == len(lot)


def least_ones(lots):
    return sorted(lot for lot in lots if not any(set(other) < set(lot) for other in lots))


class Told:
    """All turns and walls of a point, by their meaning."""

    def __init__(self, sheet, point, wishes):
        self.moves = moves_at(sheet, point)
        self.lots = lots_of(self.moves)
        granted = {}
        for one in box_points(whole(sheet)):
            granted[tuple(sorted(one.items()))] = grants_all(sheet, one, wishes)
        self.ways = [lot for lot in self.lots if is_way(lot)]
        self.turns = [way for way in self.ways if granted[tuple(sorted({**point, **dict(way)}.items()))]]
        self.walls = [lot for lot in self.lots if all(set(turn) & set(lot) for turn in self.turns)]
        self.least_turns = least_ones(self.turns)
        self.least_walls = least_ones(self.walls)


def made_case(seed, names=4, widest=3):
    """A sheet, a point and wishes of which it does not grant all."""
    maker = Maker(seed)
    while True:
        if maker.chance(3):
            sheet, spots = maker.sheet(4, 2, 3), None
        else:
            sheet, spots = maker.table_sheet(maker.number(2, names), widest, 3, 8), ["out"]
        point = maker.point(sheet)
        wishes = [maker.wish(sheet, spots) for _ in range(maker.one_of((1, 1, 2)))]
        if grants_all(sheet, point, wishes):
            continue
        if maker.chance(8) or any(grants_all(sheet, one, wishes) for one in all_points(sheet)):
            return maker, sheet, point, wishes


def told_case(seed):
    maker, sheet, point, wishes = made_case(seed)
    return maker, sheet, point, wishes, Told(sheet, point, wishes)


def bad_wish_lists():
    """Pairs of what is no list of wishes and the index that BadWishes tells."""
    found = [(thing, None) for thing in odd_values() if not (isinstance(thing, (list, tuple)) and 1 <= len(thing) <= 8)]
    found += [(thing, 0) for thing in odd_values() if isinstance(thing, (list, tuple)) and 1 <= len(thing) <= 8]
    found += [([WISH] * 9, None), ([], None), ((), None), ({"a": WISH}, None), (WISH, 0), ([[]] * 9, None)]
    for wish in (("a", (1,), True), ("r", (1,), True), (("r", 3), (1,), True), ("z", (1,), True), ("s", (), True), ("s", (1, 0), True),
                 ("s", (None, 0), True), ("s", [1], True), ("s", (True,), True), ("s", (1,), 1), ["s", (1,), True], ("s", (1,)),
                 ("s", (Odd(),), True), None):
        found += [([wish], 0), ((WISH, wish, wish), 1), ([WISH] * 7 + [wish], 7)]
    return found


def refuses_all(test, function, count):
    """Whether a function of a sheet, a point, wishes and so many more refuses what is wrong, the first one first."""
    more = [None] * count
    for thing in odd_values():
        with test.assertRaises(BadSheet):
            function(thing, None, None, *more)
        with test.assertRaises(BadPoint):
            function(SHEET, thing, None, *more)
    with test.assertRaises(Faulty) as caught:
        function(FAULTY, None, None, *more)
    test.assertEqual(caught.exception.fault, ((2, 0, 2), "unknown", "x"))
    for point in ({"a": 0, "b": 0}, {"a": 0, "b": 0, "c": 2}, {"a": 0, "b": 0, "c": True}, {**ZERO, "d": 0}):
        with test.assertRaises(BadPoint):
            function(SHEET, point, None, *more)
    for wishes, at in bad_wish_lists():
        with test.assertRaises(BadWishes) as caught:
            function(SHEET, ZERO, wishes, *more)
        test.assertEqual(caught.exception.at, at, wishes)
    for wishes in ([("s", (0,), True)], (("s", (0,), True), ("o", (None,), True)), [("o", (0, 1), False)] * 8):
        with test.assertRaises(NowSo):
            function(SHEET, ZERO, wishes, *more)


def bad_lots():
    """Values that are no lots of the example at the point where all are 0."""
    return [(("a", 0),), (("a", 2),), (("d", 1),), (("b", 1), ("a", 1)), (("a", 1), ("a", 1)), [("a", 1)], (["a", 1],), (("a", True),),
            (("a", None),), (("a", 1, 1),), (("a",),), ("a", 1), (("s", 1),), (("a", 1), None), {("a", 1): True}]


def odd_lots():
    return bad_lots() + [thing for thing in odd_values() if not (isinstance(thing, tuple) and thing == ())]
