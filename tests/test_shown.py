import unittest

from tests.making import odd_values
from tests.turning import ALL, NEVER, PAIRS, SHEET, WISH, ZERO, odd_lots, refuses_all, told_case
from whysheets.errors import BadLot, NoTurn, NoWall, NotLeast
from whysheets.shown import is_shut_shown, is_turn_shown, turns_by_move, walls_by_move

ONE, TWO, THREE = ALL


def is_dict_by_move(lot, thing, lots):
    return list(thing) == list(lot) and all(thing[move] in lots and [m for m in thing[move] if m in lot] == [move] for move in lot)


class ShownTest(unittest.TestCase):
    def test_told(self):
        found = walls_by_move(SHEET, ZERO, [WISH], PAIRS[0])
        self.assertEqual(found, {ONE: (ONE, THREE), TWO: (TWO, THREE)})
        self.assertEqual(turns_by_move(sheet=SHEET, point=ZERO, wishes=[WISH], lot=PAIRS[1]), {ONE: (ONE, TWO), THREE: (TWO, THREE)})
        self.assertIs(is_turn_shown(sheet=SHEET, point=ZERO, wishes=[WISH], lot=PAIRS[0], thing=found), True)
        # The empty wall is shown by nothing.
        self.assertEqual(turns_by_move(SHEET, ZERO, [NEVER], ()), {})
        self.assertIs(is_shut_shown(SHEET, ZERO, [NEVER], (), {}), True)

    def test_what_is_not_shown(self):
        good = {ONE: (ONE, THREE), TWO: (TWO, THREE)}
        self.assertIs(is_turn_shown(SHEET, ZERO, [WISH], PAIRS[0], dict(reversed(good.items()))), True)
        self.assertIs(is_shut_shown(SHEET, ZERO, [WISH], PAIRS[0], good), True)
        bad = [{ONE: (ONE, THREE)}, {**good, THREE: (TWO, THREE)}, {ONE: (ONE, THREE), THREE: (TWO, THREE)}, {**good, ONE: (ONE, TWO)},
               {**good, ONE: (ONE,)}, {**good, ONE: (THREE,)}, {**good, ONE: (TWO, THREE)}, {**good, ONE: (THREE, ONE)},
               {**good, ONE: [ONE, THREE]}, {**good, ONE: None}, {("a", True): (ONE, THREE), TWO: (TWO, THREE)},
               {**good, ONE: (("a", True), THREE)}, {**good, ONE: (("a", 0), THREE)}, {}, list(good), tuple(good.items())]
        for thing in bad + odd_values():
            self.assertIs(is_turn_shown(SHEET, ZERO, [WISH], PAIRS[0], thing), False)
            self.assertIs(is_shut_shown(SHEET, ZERO, [WISH], PAIRS[0], thing), False)
        # What is not least is not shown, but judged.
        self.assertIs(is_turn_shown(SHEET, ZERO, [WISH], ALL, {move: (move,) for move in ALL}), False)

    def test_made_sheets(self):
        met = {"turn": 0, "shut": 0}
        for seed in range(50):
            maker, sheet, point, wishes, told = told_case(seed)
            for lot in told.lots:
                if lot not in told.turns:
                    for function in (walls_by_move, lambda *told: is_turn_shown(*told, None)):
                        with self.assertRaises(NoTurn):
                            function(sheet, point, wishes, lot)
                elif lot not in told.least_turns:
                    with self.assertRaises(NotLeast):
                        walls_by_move(sheet, point, wishes, lot)
                else:
                    found = walls_by_move(sheet, point, wishes, lot)
                    self.assertTrue(is_dict_by_move(lot, found, told.walls))
                    self.assertIs(is_turn_shown(sheet, point, wishes, lot, found), True)
                    other = {move: maker.one_of(told.walls) for move in lot}
                    self.assertIs(is_turn_shown(sheet, point, wishes, lot, other), is_dict_by_move(lot, other, told.walls))
                    met["turn"] += 1
                if lot not in told.walls:
                    for function in (turns_by_move, lambda *told: is_shut_shown(*told, None)):
                        with self.assertRaises(NoWall):
                            function(sheet, point, wishes, lot)
                elif lot not in told.least_walls:
                    with self.assertRaises(NotLeast):
                        turns_by_move(sheet, point, wishes, lot)
                else:
                    found = turns_by_move(sheet, point, wishes, lot)
                    self.assertTrue(is_dict_by_move(lot, found, told.turns))
                    self.assertIs(is_shut_shown(sheet, point, wishes, lot, found), True)
                    if told.turns:
                        other = {move: maker.one_of(told.turns) for move in lot}
                        self.assertIs(is_shut_shown(sheet, point, wishes, lot, other), is_dict_by_move(lot, other, told.turns))
                    met["shut"] += 1
        self.assertGreater(min(met.values()), 50)

    def test_errors(self):
        for function, count in ((walls_by_move, 1), (turns_by_move, 1), (is_turn_shown, 2), (is_shut_shown, 2)):
            refuses_all(self, function, count)
            for thing in odd_lots():
                with self.assertRaises(BadLot):
                    function(SHEET, ZERO, [WISH], thing, *[None] * (count - 1))


if __name__ == "__main__":
    unittest.main()
