import unittest

from tests.making import Maker, Odd, all_points, odd_values
from tests.playing import GAME, HANDS, SHEET, Told, changed_things, is_formed, made_game, made_sheet, refuses_spots
from tests.judging import wrong_ones
from whysheets.counts import counted
from whysheets.courses import due, is_course, stakes
from whysheets.errors import BadCourse, BadSide, BadWeights, OpenWorth
from whysheets.hands import sure
from whysheets.kinds import kinds
from whysheets.making import fork_of
from whysheets.plain import worth
from whysheets.texts import read_sheet

ONES = {"x": (1, 1, 1), "y": (1, 1, 1)}
DRAWN = (("x", "mine"), ("y", "chance"))
WEIGHTS = {"x": (1, 1, 1), "y": (1, 1, 2)}
BOUNDS = ("bounds",)
COURSE = ("set", 2, ("each", (("known", 0, BOUNDS), ("known", 1, BOUNDS), ("known", 2, BOUNDS))))
SIDES = ("mine", "other")


class Dues(Told):
    """Courses over explicit positions."""

    def __init__(self, sheet, spot, game, weights):
        super().__init__(sheet, {one[1]: one[2] for one in sheet[1]}, game, {one[1]: 1 for one in sheet[1]}, (spot, (0,), True))
        self.spot = spot
        self.weights = weights
        self.worths = {}
        for point in all_points(sheet):
            self.worths[tuple(point[name] for name, _ in game)] = worth(sheet, point, spot)

    def is_course(self, side, thing, position=()):
        if thing[:1] == ("known",):
            if len(thing) != 3 or isinstance(thing[1], bool) or not isinstance(thing[1], int) or not is_formed(thing[2]):
                return False
            return wrong_ones(self.sheet, self.box(position), (((self.spot, (thing[1],), False),), None), thing[2]) == []
        rests = self.rests(position, thing, self.owner(position) == side)
        return rests is not None and all(self.is_course(side, rest, behind) for behind, rest in rests)

    def weight(self, position, number):
        name = self.game[len(position)][0]
        return self.weights[name][number - self.ranges[name][0]]

    def due(self, side, thing, position=()):
        if thing[0] == "known":
            total = thing[1]
            for name, hand in self.game[len(position):]:
                total *= sum(self.weights[name]) if hand == "chance" else 1
            return total
        rests = self.rests(position, thing, self.owner(position) == side)
        dues = [self.due(side, rest, behind) for behind, rest in rests]
        if self.owner(position) == "chance":
            return sum(one * self.weight(position, behind[-1]) for one, (behind, _) in zip(dues, rests))
        if self.owner(position) == side:
            return dues[0]
        return min(dues) if side == "mine" else max(dues)

    def best(self, position=()):
        """The due that both sides can hold each other to."""
        if len(position) == len(self.game):
            return self.worths[position]
        dues = [self.best(position + (number,)) for number in self.numbers(position)]
        if self.owner(position) == "chance":
            return sum(one * self.weight(position, number) for one, number in zip(dues, self.numbers(position)))
        return max(dues) if self.owner(position) == "mine" else min(dues)

    def point_of(self, position):
        return {name: number for (name, _), number in zip(self.game, position)}


def made_case(seed, hands=HANDS):
    maker = Maker(seed)
    sheet, spots = made_sheet(maker)
    weights = {name: tuple(maker.number(1, 3) for _ in range(high - low + 1)) for _, name, low, high in maker.shuffled(sheet[1])}
    return maker, (sheet, maker.one_of(spots), made_game(maker, sheet, hands), weights)


def exchanged(game):
    return tuple((name, {"mine": "other", "other": "mine"}.get(hand, hand)) for name, hand in game)


class CoursesTest(unittest.TestCase):
    def test_example(self):
        found = stakes(SHEET, "c", (("x", "mine"), ("y", "chance")), {"x": (1, 1, 1), "y": (1, 1, 2)})
        self.assertEqual(found[0], 0 + 1 + 2 * 2)
        self.assertEqual(found[1][:2], ("set", 2))
        for side, course in zip(SIDES, found[1:]):
            self.assertIs(is_course(SHEET, "c", DRAWN, side, course), True)
            self.assertEqual(due(SHEET, "c", DRAWN, WEIGHTS, side, course), 5)

    def test_courses(self):
        self.assertIs(is_course(sheet=SHEET, spot="c", game=DRAWN, side="mine", thing=COURSE), True)
        self.assertIs(is_course(SHEET, "c", DRAWN, "other", COURSE), False)
        self.assertEqual(due(sheet=SHEET, spot="c", game=DRAWN, weights=WEIGHTS, side="mine", course=COURSE), 5)
        self.assertEqual(due(SHEET, "c", DRAWN, {"x": (7, 8, 9), "y": (2, 30, 5)}, "mine", COURSE), 30 + 10)
        low = ("set", 0, ("known", 0, BOUNDS))
        self.assertEqual(due(SHEET, "c", DRAWN, WEIGHTS, "mine", low), 0)
        one = read_sheet("input x from 0 to 2 input y from 1 to 2 input z from 0 to 0 cell c = 0 - 3")
        for game, wanted in (((("x", "chance"), ("y", "mine"), ("z", "chance")), -3 * 6 * 9), ((("x", "other"), ("y", "mine"), ("z", "chance")), -27),
                             ((("x", "other"), ("y", "mine"), ("z", "other")), -3)):
            weights = {"x": (1, 2, 3), "y": (1, 5), "z": (9,)}
            for side in SIDES:
                self.assertEqual(due(one, "c", game, weights, side, ("known", -3, BOUNDS)), wanted)
            self.assertEqual(stakes(one, "c", game, weights), (wanted, ("known", -3, BOUNDS), ("known", -3, BOUNDS)))
        for thing in (("set", 3, COURSE[2]), ("set", True, COURSE[2]), ("set", 1, COURSE[2]), ("set", 2, ("each", COURSE[2][1][:2])), ("each", (COURSE[2],) * 3),
                      ("set", 2, ("each", list(COURSE[2][1]))), ["set", 2, COURSE[2]], ("set", 2), ("set", Odd(), COURSE[2]), (Odd(), 2, COURSE[2]), ("known", 0, BOUNDS),
                      ("set", 0, ("known", False, BOUNDS)), ("set", 0, ("known", None, BOUNDS)), ("set", 0, ("known", 1, BOUNDS)), ("set", 0, ("known", 0)),
                      ("set", 0, ("known", 0, "bounds")), ("set", 0, ("known", 0, ("far",))), ("set", 0, ("known", 0, ("point",))), ("set", 0, ("known", Odd(), BOUNDS)),
                      ("set", 0, ("set", 0, ("known", 0, BOUNDS))), *odd_values()):
            self.assertIs(is_course(SHEET, "c", DRAWN, "mine", thing), False, thing)
            with self.assertRaises(BadCourse):
                due(SHEET, "c", DRAWN, WEIGHTS, "mine", thing)
        # An open worth is no number, and no course knows it.
        self.assertIs(is_course(SHEET, "o", GAME, "mine", ("set", 2, ("known", None, BOUNDS))), False)
        self.assertIs(is_course(SHEET, "o", GAME, "mine", ("set", 0, ("known", 0, BOUNDS))), True)

    def test_open_worths(self):
        for call in (lambda: stakes(SHEET, "o", DRAWN, WEIGHTS), lambda: due(SHEET, "o", GAME, ONES, "mine", ("set", 0, ("known", 0, BOUNDS)))):
            with self.assertRaises(OpenWorth) as caught:
                call()
            self.assertEqual(caught.exception.point, {"x": 2, "y": 0})
            self.assertEqual(list(caught.exception.point), ["x", "y"])
        with self.assertRaises(BadCourse):
            due(SHEET, "o", GAME, ONES, "mine", ("set", 2, ("known", 0, BOUNDS)))

    def test_made_games(self):
        met = opened = changed = 0
        for seed in range(250):
            maker, (sheet, spot, game, weights) = made_case(seed)
            told = Dues(sheet, spot, game, weights)
            gaps = [point for point in all_points(sheet) if worth(sheet, point, spot) is None]
            if gaps:
                opened += 1
                with self.assertRaises(OpenWorth) as caught:
                    stakes(sheet, spot, game, weights)
                self.assertEqual(caught.exception.point, gaps[0])
                continue
            met += 1
            found = stakes(sheet, spot, game, weights)
            self.assertEqual(found[0], told.best())
            dues = {"mine": [], "other": []}
            for side, course in zip(SIDES, found[1:]):
                self.assertTrue(told.is_course(side, course))
                self.assertEqual(told.due(side, course), found[0])
                things = [course] + [changed_things(maker, course) for _ in range(4)]
                for thing in things:
                    for other in SIDES:
                        wanted = told.is_course(other, thing)
                        self.assertIs(is_course(sheet, spot, game, other, thing), wanted)
                        if wanted:
                            changed += 1
                            self.assertEqual(due(sheet, spot, game, weights, other, thing), told.due(other, thing))
                            dues[other].append(told.due(other, thing))
            # HEART of chance.
            self.assertLessEqual(max(dues["mine"]), min(dues["other"]))
        self.assertGreater(met, 100)
        self.assertGreater(opened, 20)
        self.assertGreater(changed, 300)

    def test_facts(self):
        moved = 0
        for seed in range(300, 700):
            maker, (sheet, spot, game, weights) = made_case(seed)
            if any(worth(sheet, point, spot) is None for point in all_points(sheet)):
                continue
            found = stakes(sheet, spot, game, weights)[0]
            drawn = tuple((name, "chance") for name, _ in game)
            counts = counted(fork_of(sheet, spot, tuple(one[1:] for one in sheet[1])), weights)
            self.assertEqual(stakes(sheet, spot, drawn, weights)[0], sum(worth * count for worth, count in counts.items()))
            for k in range(len(game) - 1):
                other = game[:k] + (game[k + 1], game[k]) + game[k + 2:]
                behind = stakes(sheet, spot, other, weights)[0]
                hands = (game[k][1], game[k + 1][1])
                if hands[0] == hands[1]:
                    self.assertEqual(behind, found)
                elif hands[0] == "mine":
                    self.assertGreaterEqual(behind, found)
                elif hands[0] == "other":
                    self.assertLessEqual(behind, found)
                moved += behind != found
            # The opposite number everywhere, with the sides exchanged.
            name = spot if isinstance(spot, str) else None
            negative = ("cell", "neg", ("minus", ("number", 0), ("name", name) if name else ("item",) + spot))
            if sheet_is_number(sheet, spot):
                more = ("sheet", sheet[1], sheet[2] + (negative,))
                self.assertEqual(stakes(more, "neg", exchanged(game), weights)[0], -found)
            plain = tuple((one, "mine" if hand == "chance" else hand) for one, hand in game)
            if {worth(sheet, point, spot) for point in all_points(sheet)} <= {0, 1}:
                point = maker.point(sheet)
                plan = sure(sheet, point, plain, {one: 1 for one in point}, (spot, (1,), True))
                self.assertEqual(stakes(sheet, spot, plain, weights)[0] == 1, plan[0] == "sure")
        self.assertGreater(moved, 2)

    def test_errors(self):
        refuses_spots(self, lambda sheet, spot, game: is_course(sheet, spot, game, None, None))
        refuses_spots(self, lambda sheet, spot, game: due(sheet, spot, game, None, None, None))
        refuses_spots(self, lambda sheet, spot, game: stakes(sheet, spot, game, None))
        for weights in ({"x": (1, 1, 1)}, {**ONES, "z": (1,)}, {**ONES, "x": (1, 1)}, {**ONES, "x": (1, 1, 1, 1)}, {**ONES, "x": [1, 1, 1]},
                        {**ONES, "x": (1, 0, 1)}, {**ONES, "x": (1, 100, 1)}, {**ONES, "x": (1, True, 1)}, {**ONES, "x": (1, None, 1)},
                        {**ONES, "x": (1, Odd(), 1)}, {"x": (1, 1, 1), "z": (1, 1, 1)}, *odd_values()):
            with self.assertRaises(BadWeights):
                stakes(SHEET, "o", GAME, weights)
            with self.assertRaises(BadWeights):
                due(SHEET, "o", GAME, weights, None, None)
        for side in ("chance", "Mine", ("mine",), *odd_values()):
            with self.assertRaises(BadSide):
                is_course(SHEET, "c", GAME, side, None)
            with self.assertRaises(BadSide):
                due(SHEET, "o", GAME, ONES, side, None)
        # The greatest weight.
        top = {"x": (99,) * 3, "y": (99,) * 3}
        self.assertEqual(stakes(SHEET, "c", (("x", "chance"), ("y", "chance")), top)[0], 99 * 99 * 5)


def sheet_is_number(sheet, spot):
    return kinds(sheet)[spot if isinstance(spot, str) else spot[0]] == "number" and "neg" not in [one[1] for one in sheet[2]]


if __name__ == "__main__":
    unittest.main()
