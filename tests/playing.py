"""Games told once more: plans, spoilers and courses over explicit positions."""

from tests.judging import grants, wrong_ones
from tests.making import Maker, Odd, all_spots, odd_values
from tests.reckoning import Reckoner
from tests.test_plain import FAULTY
from whysheets.errors import BadGame, BadPoint, BadPrices, BadSheet, BadSpot, BadWish, Faulty
from whysheets.texts import read_sheet

# The sheet of the document's example, with a row and a cell that is open where x is 2.
SHEET = read_sheet("input x from 0 to 2 input y from 0 to 2 cell c = least(x, y) row r of 2 = x * place "
                   "settle o from 0 to 1 start 0 = if x == 2 then 1 - o else o")
WISH = ("c", (0,), True)
GAME = (("x", "mine"), ("y", "other"))
POINT = {"x": 2, "y": 2}
ONES = {"x": 1, "y": 1}
HANDS = ("mine", "other", "chance")


class Told:
    """A game for a wish over explicit positions."""

    def __init__(self, sheet, point, game, prices, wish):
        self.sheet, self.point, self.game, self.prices, self.wish = sheet, point, game, prices, wish
        self.ranges = {name: list(range(low, high + 1)) for _, name, low, high in sheet[1]}
        self.known = {}

    def numbers(self, position):
        return self.ranges[self.game[len(position)][0]]

    def owner(self, position):
        return self.game[len(position)][1] if len(position) < len(self.game) else None

    def cost(self, position, number):
        name, hand = self.game[len(position)]
        return self.prices[name] * abs(number - self.point[name]) if hand == "mine" else 0

    def paid(self, position):
        return sum(self.cost(position[:k], number) for k, number in enumerate(position))

    def box(self, position):
        found = {name: tuple(numbers) for name, numbers in self.ranges.items()}
        for k, number in enumerate(position):
            found[self.game[k][0]] = (number,)
        return found

    def left(self, position=()):
        """The least that a plan pays from a position on; None for no plan."""
        if position not in self.known:
            self.known[position] = self.fresh(position)
        return self.known[position]

    def fresh(self, position):
        if len(position) == len(self.game):
            point = {name: number for (name, _), number in zip(self.game, position)}
            return 0 if grants(self.wish, Reckoner(self.sheet, point).worth(self.wish[0])) else None
        costs = []
        for number in self.numbers(position):
            behind = self.left(position + (number,))
            costs.append(None if behind is None else behind + self.cost(position, number))
        if self.owner(position) == "mine":
            return min((cost for cost in costs if cost is not None), default=None)
        return None if None in costs else max(costs)

    def shows(self, position, wish, paper):
        return is_formed(paper) and wrong_ones(self.sheet, self.box(position), ((wish,), None), paper) == []

    def rests(self, position, thing, sets):
        """The pairs of a longer position and its rest, None for no branch."""
        if len(position) == len(self.game) or not isinstance(thing, tuple):
            return None
        numbers = self.numbers(position)
        if sets:
            if len(thing) != 3 or thing[0] != "set" or thing[1] not in numbers:
                return None
            return [(position + (thing[1],), thing[2])]
        if len(thing) != 2 or thing[0] != "each" or not isinstance(thing[1], tuple) or len(thing[1]) != len(numbers):
            return None
        return [(position + (number,), rest) for number, rest in zip(numbers, thing[1])]

    def plan_price(self, thing, position=()):
        """The price of a plan; None for what is none."""
        if thing[:1] == ("won",):
            spot, worths, is_in = self.wish
            return 0 if len(thing) == 2 and self.shows(position, (spot, worths, not is_in), thing[1]) else None
        rests = self.rests(position, thing, self.owner(position) == "mine")
        if rests is None:
            return None
        prices = [self.plan_price(rest, behind) for behind, rest in rests]
        if None in prices:
            return None
        return max(price + self.cost(position, behind[-1]) for price, (behind, _) in zip(prices, rests))

    def is_spoiler(self, price, thing, position=()):
        if thing[:1] == ("lost",):
            return len(thing) == 2 and self.shows(position, self.wish, thing[1])
        if thing == ("paid",):
            return price is not None and self.paid(position) >= price
        rests = self.rests(position, thing, self.owner(position) != "mine")
        return rests is not None and all(self.is_spoiler(price, rest, behind) for behind, rest in rests)


def is_formed(paper):
    """Whether a paper that the tests change by hand still has the form of one."""
    return paper in (("bounds",), ("far",), ("point",)) or (isinstance(paper, tuple) and paper[:1] == ("split",))


def changed_things(maker, thing):
    """A plan, a spoiler or a course with one of its parts changed."""
    if thing[0] == "set" and maker.chance(2):
        return (thing[0], thing[1], changed_things(maker, thing[2]))
    if thing[0] == "each" and maker.chance(2):
        k = maker.below(len(thing[1]))
        return ("each", thing[1][:k] + (changed_things(maker, thing[1][k]),) + thing[1][k + 1:])
    if thing[0] == "set":
        return maker.one_of([("set", thing[1] + 1, thing[2]), ("set", thing[1] - 1, thing[2]), thing[2], ("each", (thing[2],)),
                             ("each", (thing[2], thing[2]))])
    if thing[0] == "each":
        return maker.one_of([("each", thing[1][1:]), ("each", thing[1] + thing[1][:1]), ("each", thing[1][::-1]), thing[1][0],
                             ("set", 0, thing[1][0]), ("set", 1, thing[1][-1]), ("each", (thing[1][0],) * len(thing[1]))])
    if thing[0] == "known":
        return maker.one_of([("known", thing[1] + 1, thing[2]), ("known", thing[1], ("point",)), ("known", None, thing[2]), thing[:2]])
    other = {"won": "lost", "lost": "won", "paid": "lost"}[thing[0]]
    return maker.one_of([(other, ("bounds",)), (thing[0], ("point",)), (thing[0], ("bounds",)), ("paid",), ("each", (thing, thing)),
                         ("set", 0, thing), ("lost", ("point",))])


def made_sheet(maker, names=3, widest=3):
    """A sheet and spots of it."""
    if maker.chance(3):
        sheet = maker.sheet(4, maker.number(1, 3), 3)
        inputs = [one[1] for one in sheet[1]]
        return sheet, [one for one in all_spots(sheet) if one not in inputs]
    return maker.table_sheet(maker.number(1, names), widest, 3, 8), ["out"]


def made_game(maker, sheet, hands=HANDS):
    return tuple((one[1], maker.one_of(hands)) for one in maker.shuffled(sheet[1]))


def made_case(seed, names=3, widest=3, hands=HANDS):
    """A maker, and what the functions of hands are passed first."""
    maker = Maker(seed)
    sheet, spots = made_sheet(maker, names, widest)
    told = (sheet, maker.point(sheet), made_game(maker, sheet, hands), maker.prices(sheet), maker.wish(sheet, spots))
    return maker, told


def bad_games():
    return [(("x", "mine"),), GAME + (("z", "mine"),), (("x", "mine"), ("x", "other")), (("x", "mine"), ("z", "other")), list(GAME),
            (("x", "mine"), ["y", "other"]), (("x", "mine"), ("y", "yours")), (("x", "mine"), ("y", None)), (("x", "mine"), ("y",)),
            (("x", "mine"), ("y", "other", 1)), (("x", Odd()), ("y", "other")), ((Odd(), "mine"), ("y", "other")), (("x", "mine"), ("c", "other")),
            *odd_values()]


def bad_wishes():
    return [("c", (), True), ("c", [0], True), ("c", (1, 0), True), ("c", (0, 0), True), ("c", (None, 0), True), ("c", (True,), True),
            ("c", (0,), 1), ("c", (0,)), ["c", (0,), True], ("x", (0,), True), ("r", (0,), True), (("r", 3), (0,), True), ("z", (0,), True),
            *odd_values()]


def bad_prices():
    return [{"x": 1}, {**ONES, "z": 1}, {**ONES, "x": 0}, {**ONES, "x": 1000}, {**ONES, "x": True}, {"x": 1, "z": 1}, *odd_values()]


def bad_points():
    return [{"x": 0}, {**POINT, "z": 0}, {"x": 3, "y": 0}, {"x": True, "y": 0}, {"x": -1, "y": 0}, *odd_values()]


def refuses_first(test, call):
    """Whether a function of a sheet, a point, a game, prices, a wish and more refuses what is wrong, the first one first."""
    for thing in odd_values():
        with test.assertRaises(BadSheet):
            call(thing, None, None, None, None)
    with test.assertRaises(Faulty) as caught:
        call(FAULTY, None, None, None, None)
    test.assertEqual(caught.exception.fault, ((2, 0, 2), "unknown", "x"))
    for thing in bad_points():
        with test.assertRaises(BadPoint):
            call(SHEET, thing, None, None, None)
    for thing in bad_games():
        with test.assertRaises(BadGame):
            call(SHEET, POINT, thing, None, None)
    for thing in bad_prices():
        with test.assertRaises(BadPrices):
            call(SHEET, POINT, GAME, thing, None)
    for thing in bad_wishes():
        with test.assertRaises(BadWish):
            call(SHEET, POINT, GAME, ONES, thing)


def refuses_spots(test, call):
    """Whether a function of a sheet, a spot, a game and more refuses what is wrong, the first one first."""
    for thing in odd_values():
        with test.assertRaises(BadSheet):
            call(thing, None, None)
    with test.assertRaises(Faulty):
        call(FAULTY, None, None)
    for thing in ("x", "r", ("r", 3), ("r", True), "z", *odd_values()):
        with test.assertRaises(BadSpot):
            call(SHEET, thing, None)
    for thing in bad_games():
        with test.assertRaises(BadGame):
            call(SHEET, "c", thing)
