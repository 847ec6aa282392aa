import unittest

from tests.judging import box_points
from tests.making import Maker, all_points, odd_values
from tests.test_plain import FAULTY
from tests.turning import ALL, NEVER, PAIRS, SHEET, WISH, ZERO, is_way, made_case, moves_at, odd_lots, refuses_all, told_case
from whysheets.boxes import whole
from whysheets.errors import BadBox, BadLot, BadPoint, BadSheet, Faulty
from whysheets.finding import find
from whysheets.plain import worth
from whysheets.texts import read_sheet
from whysheets.turns import behind, box_beside, is_turn, moves, shuts, turn_within, wall_of, wall_within, way_to

WIDE = read_sheet("input n from -1 to 2 input b from 0 to 1 input q from 5 to 5 cell c = n * b")
POINT = {"n": 1, "b": 0, "q": 5}


class MovesTest(unittest.TestCase):
    def test_told(self):
        self.assertEqual(moves(WIDE, POINT), [("b", 1), ("n", -1), ("n", 0), ("n", 2)])
        self.assertEqual(moves(sheet=SHEET, point=ZERO), list(ALL))
        self.assertEqual(behind(WIDE, POINT, (("b", 1), ("n", -1))), {"b": 1, "n": -1, "q": 5})
        self.assertEqual(list(behind(sheet=WIDE, point=POINT, lot=())), ["b", "n", "q"])
        self.assertEqual(way_to(WIDE, POINT, {"q": 5, "b": 1, "n": 2}), (("b", 1), ("n", 2)))
        self.assertEqual(way_to(sheet=WIDE, point=POINT, other=POINT), ())
        self.assertEqual(box_beside(WIDE, POINT, (("n", -1), ("n", 2))), {"b": (0, 1), "n": (0, 1), "q": (5,)})
        self.assertEqual(list(box_beside(sheet=WIDE, point=POINT, lot=())), ["b", "n", "q"])
        self.assertEqual(wall_of(WIDE, POINT, {"n": (0, 1), "b": (0,), "q": (5,)}), (("b", 1), ("n", -1), ("n", 2)))
        self.assertEqual(wall_of(sheet=WIDE, point=POINT, box=whole(WIDE)), ())

    def test_made_sheets(self):
        for seed in range(60):
            maker = Maker(seed)
            sheet = maker.sheet(2, 3, 4)
            point, other = maker.point(sheet), maker.point(sheet)
            found = moves(sheet, point)
            self.assertEqual(found, moves_at(sheet, point))
            way = way_to(sheet, point, other)
            self.assertEqual(way, tuple((name, other[name]) for name in sorted(point) if point[name] != other[name]))
            self.assertEqual(behind(sheet, point, way), other)
            lot = tuple(move for move in found if maker.chance(2))
            box = box_beside(sheet, point, lot)
            beside = [one for one in all_points(sheet) if not set(way_to(sheet, point, one)) & set(lot)]
            self.assertEqual(box_points(box), beside)
            self.assertEqual(wall_of(sheet, point, box), lot)
            box = {name: tuple(sorted(set(numbers) | {point[name]})) for name, numbers in maker.box(sheet).items()}
            self.assertEqual(box_beside(sheet, point, wall_of(sheet, point, box)), box)

    def test_errors(self):
        for function, count in ((moves, 0), (behind, 1), (way_to, 1), (box_beside, 1), (wall_of, 1)):
            for thing in odd_values():
                with self.assertRaises(BadSheet):
                    function(thing, None, *[None] * count)
                with self.assertRaises(BadPoint):
                    function(SHEET, thing, *[None] * count)
            with self.assertRaises(Faulty):
                function(FAULTY, None, *[None] * count)
        for thing in odd_values():
            with self.assertRaises(BadPoint):
                way_to(SHEET, ZERO, thing)
            with self.assertRaises(BadBox):
                wall_of(SHEET, ZERO, thing)
        for thing in odd_lots():
            for function in (behind, box_beside):
                with self.assertRaises(BadLot):
                    function(SHEET, ZERO, thing)
        with self.assertRaises(BadLot):
            behind(WIDE, POINT, (("n", -1), ("n", 0)))
        for box in ({"a": (1,), "b": (0,), "c": (0,)}, {"a": (0, 1), "b": (0,), "c": (1,)}, {"a": (0,), "b": (0,)}):
            with self.assertRaises(BadBox):
                wall_of(SHEET, ZERO, box)


class TurnsTest(unittest.TestCase):
    def test_told(self):
        for lot in PAIRS + [ALL]:
            self.assertIs(is_turn(SHEET, ZERO, [WISH], lot), True)
            self.assertIs(shuts(SHEET, ZERO, (WISH,), lot), True)
        for lot in ((), (("a", 1),)):
            self.assertIs(is_turn(sheet=SHEET, point=ZERO, wishes=[WISH], thing=lot), False)
            self.assertIs(shuts(sheet=SHEET, point=ZERO, wishes=[WISH], thing=lot), False)
        self.assertIs(shuts(SHEET, ZERO, [NEVER], ()), True)
        self.assertIs(is_turn(SHEET, ZERO, [WISH, ("o", (None,), True), (("r", 2), (0,), True)], PAIRS[2]), True)
        self.assertIs(is_turn(SHEET, ZERO, [WISH, (("r", 2), (0,), True)], PAIRS[0]), False)
        for function in (is_turn, shuts):
            for thing in odd_lots():
                self.assertIs(function(SHEET, ZERO, [WISH], thing), False)
        # Several moves of an input are no way, and a wall.
        self.assertIs(is_turn(WIDE, POINT, [("c", (2,), True)], (("b", 1), ("n", 0), ("n", 2))), False)
        self.assertIs(is_turn(WIDE, POINT, [("c", (2,), True)], (("b", 1), ("n", 2))), True)
        self.assertIs(shuts(WIDE, POINT, [("c", (2,), True)], (("n", 0), ("n", 2))), True)

    def test_made_sheets(self):
        met = 0
        for seed in range(60):
            maker, sheet, point, wishes, told = told_case(seed)
            for lot in told.lots:
                found = (is_turn(sheet, point, wishes, lot), shuts(sheet, point, wishes, lot))
                self.assertEqual(found, (lot in told.turns, lot in told.walls))
                met += found[0]
                claim = (tuple(wishes), None)
                self.assertEqual(find(sheet, box_beside(sheet, point, lot), claim)[0] == "paper", found[1])
                # A lot that has a move of each wall holds a turn.
                self.assertEqual(all(set(wall) & set(lot) for wall in told.walls), any(set(turn) <= set(lot) for turn in told.turns))
        self.assertGreater(met, 100)

    def test_more_wishes_and_other_points(self):
        for seed in range(40):
            maker, sheet, point, wishes, told = told_case(seed)
            more = wishes + [maker.wish(sheet)]
            for wall in told.walls[:10]:
                self.assertTrue(shuts(sheet, point, more, wall))
                box = box_beside(sheet, point, wall)
                for other in box_points(box)[:5]:
                    self.assertTrue(shuts(sheet, other, wishes, wall_of(sheet, other, box)))
            for turn in told.turns[:5]:
                for wish in wishes:
                    if (worth(sheet, point, wish[0]) in wish[1]) != wish[2]:
                        self.assertTrue(is_turn(sheet, point, [wish], turn))

    def test_errors(self):
        for function in (is_turn, shuts, turn_within, wall_within):
            refuses_all(self, function, 1)
        for thing in odd_lots():
            for function in (turn_within, wall_within):
                with self.assertRaises(BadLot):
                    function(SHEET, ZERO, [WISH], thing)


class WithinTest(unittest.TestCase):
    def test_told(self):
        self.assertEqual(turn_within(SHEET, ZERO, [WISH], ALL), PAIRS[0])
        self.assertEqual(turn_within(sheet=SHEET, point=ZERO, wishes=[WISH], lot=PAIRS[2]), PAIRS[2])
        self.assertIsNone(turn_within(SHEET, ZERO, [WISH], (("a", 1),)))
        # From the last move to the first one.
        self.assertEqual(wall_within(SHEET, ZERO, [WISH], ALL), PAIRS[0])
        self.assertEqual(wall_within(sheet=SHEET, point=ZERO, wishes=[WISH], lot=PAIRS[1]), PAIRS[1])
        self.assertIsNone(wall_within(SHEET, ZERO, [WISH], (("c", 1),)))
        self.assertEqual(wall_within(SHEET, ZERO, [NEVER], ALL), ())
        self.assertIsNone(turn_within(SHEET, ZERO, [NEVER], ALL))
        # The fewest moves, not the least ones.
        sheet = read_sheet("input a from 0 to 1 input b from 0 to 1 input c from 0 to 1 cell s = a * b + c")
        self.assertEqual(turn_within(sheet, ZERO, [WISH], ALL), (("c", 1),))

    def test_made_sheets(self):
        met = {"turn": 0, "shut": 0}
        for seed in range(60):
            _, sheet, point, wishes, told = told_case(seed)
            for lot in told.lots:
                inside = [turn for turn in told.turns if set(turn) <= set(lot)]
                wanted = min(inside, key=lambda turn: (len(turn), turn)) if inside else None
                self.assertEqual(turn_within(sheet, point, wishes, lot), wanted)
                self.assertTrue(wanted is None or wanted in told.least_turns)
                met["turn"] += wanted is not None
                wanted = None
                if lot in told.walls:
                    wanted = lot
                    for move in lot[::-1]:
                        fewer = tuple(one for one in wanted if one != move)
                        if fewer in told.walls:
                            wanted = fewer
                    self.assertIn(wanted, told.least_walls)
                self.assertEqual(wall_within(sheet, point, wishes, lot), wanted)
                met["shut"] += wanted not in (None, ())
        self.assertGreater(min(met.values()), 200)

    def test_many_points(self):
        sheet = read_sheet("".join(f"input {name} from 0 to 3 " for name in "abcdefg") + "cell s = 17 < a + b + c + d + e + f + g")
        point = {name: 0 for name in "abcdefg"}
        every = tuple(moves(sheet, point))
        turn = turn_within(sheet, point, [WISH], every)
        self.assertEqual(turn, tuple((name, 3) for name in "abcdef"))
        wall = wall_within(sheet, point, [WISH], every)
        self.assertTrue(shuts(sheet, point, [WISH], wall))
        for k in range(len(wall)):
            self.assertFalse(shuts(sheet, point, [WISH], wall[:k] + wall[k + 1:]))


if __name__ == "__main__":
    unittest.main()
