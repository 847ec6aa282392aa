import unittest

from tests.judging import box_points
from tests.making import odd_values
from tests.test_plain import FAULTY
from tests.turning import ALL, NEVER, PAIRS, SHEET, WISH, ZERO, bad_lots, least_ones, refuses_all, told_case
from whysheets.errors import BadLots, BadMost, BadPoint, BadSheet, Faulty, TooMany
from whysheets.finding import find
from whysheets.mirrors import idle_moves, is_mirror_tree, mirror, mirror_tree, roomiest
from whysheets.texts import read_sheet
from whysheets.turns import box_beside, moves

A, B, C = ALL
MOST = 200


def is_tree(turns, walls, thing, taken, left, free):
    if thing[0] == "turn":
        return set(turns[thing[1]]) <= taken
    if thing[0] == "wall":
        return set(walls[thing[1]]) <= left
    _, move, one, other = thing
    return move in free and is_tree(turns, walls, one, taken | {move}, left, free - {move}) \
        and is_tree(turns, walls, other, taken, left | {move}, free - {move})


class MirrorTest(unittest.TestCase):
    def test_example(self):
        self.assertEqual(mirror(SHEET, ZERO, [WISH], 3), (PAIRS, PAIRS))
        self.assertEqual(mirror(sheet=SHEET, point=ZERO, wishes=[WISH], most=200), (PAIRS, PAIRS))
        self.assertEqual(roomiest(SHEET, ZERO, [WISH], 3), (2, PAIRS[0]))
        self.assertEqual(idle_moves(SHEET, ZERO, [WISH]), [])

    def test_no_turn(self):
        self.assertEqual(mirror(SHEET, ZERO, [NEVER], 1), ([], [()]))
        self.assertEqual(mirror_tree(SHEET, ZERO, [NEVER], 1), ("wall", 0))
        self.assertEqual(idle_moves(sheet=SHEET, point=ZERO, wishes=[NEVER]), list(ALL))
        self.assertEqual(roomiest(sheet=SHEET, point=ZERO, wishes=[NEVER], most=1), (8, ()))

    def test_made_sheets(self):
        counts = set()
        for seed in range(100):
            _, sheet, point, wishes, told = told_case(seed)
            turns, walls = mirror(sheet, point, wishes, MOST)
            self.assertEqual((turns, walls), (told.least_turns, told.least_walls))
            counts.add((len(turns), len(walls)))
            tree = mirror_tree(sheet, point, wishes, MOST)
            self.assertTrue(is_tree(turns, walls, tree, set(), set(), set(told.moves)))
            self.assertIs(is_mirror_tree(sheet, point, turns, walls, tree), True)
            # They are mirrors: the least lots that meet all of the other ones.
            self.assertEqual(least_ones([lot for lot in told.lots if all(set(lot) & set(one) for one in walls)]), turns)
            in_turns, in_walls = {move for lot in turns for move in lot}, {move for lot in walls for move in lot}
            self.assertEqual(in_turns, in_walls)
            self.assertEqual(idle_moves(sheet, point, wishes), [move for move in told.moves if move not in in_turns])
            rooms = [len(box_points(box_beside(sheet, point, wall))) for wall in walls]
            self.assertEqual(roomiest(sheet, point, wishes, MOST), (max(rooms), walls[rooms.index(max(rooms))]))
            # No box with the point in it that no turn leads into has more points.
            self.assertEqual(max(len(box_points(box_beside(sheet, point, wall))) for wall in told.walls), max(rooms))
        self.assertGreater(len(counts), 8)

    def test_too_many(self):
        for seed in range(60):
            _, sheet, point, wishes, told = told_case(seed)
            most = max(len(told.least_turns), len(told.least_walls))
            self.assertEqual(mirror(sheet, point, wishes, most), (told.least_turns, told.least_walls))
            for less in {most - 1, len(told.least_walls) - 1, 1} - {0, most}:
                for function in (mirror, mirror_tree, roomiest):
                    if 0 < less < most:
                        with self.assertRaises(TooMany) as caught:
                            function(sheet, point, wishes, less)
                        self.assertEqual(caught.exception.most, less)

    def test_many_moves(self):
        """As many walls as a few turns have: 7 inputs, of which all others would be too many to go through."""
        sheet = read_sheet("".join(f"input {name} from 0 to 3 " for name in "abcdefg") + "cell s = 18 < a + b + c + d + e + f + g")
        point = {name: 0 for name in "abcdefg"}
        turns, walls = mirror(sheet, point, [WISH], MOST)
        self.assertEqual(len(turns), 36)
        for wall in walls:
            self.assertTrue(all(set(turn) & set(wall) for turn in turns))
            for move in wall:
                self.assertTrue(any(set(turn) & set(wall) == {move} for turn in turns))
        tree = mirror_tree(sheet, point, [WISH], MOST)
        self.assertTrue(is_tree(turns, walls, tree, set(), set(), set(moves(sheet, point))))
        self.assertIs(is_mirror_tree(sheet, point, turns, walls, tree), True)
        self.assertIs(is_mirror_tree(sheet, point, turns, walls[1:], tree), False)
        with self.assertRaises(TooMany):
            mirror(sheet, point, [WISH], 83)
        count, wall = roomiest(sheet, point, [WISH], 84)
        claim = ((WISH,), None)
        self.assertEqual(find(sheet, box_beside(sheet, point, wall), claim)[0], "paper")
        self.assertEqual(count, len(box_points(box_beside(sheet, point, wall))))

    def test_errors(self):
        for function, count in ((mirror, 1), (mirror_tree, 1), (roomiest, 1), (idle_moves, 0)):
            refuses_all(self, function, count)
        for function in (mirror, mirror_tree, roomiest):
            for most in (0, -1, 201, True, None, "1", (1,), *[thing for thing in odd_values() if thing != 1]):
                with self.assertRaises(BadMost):
                    function(SHEET, ZERO, [WISH], most)


class TreeTest(unittest.TestCase):
    TREE = ("move", A, ("move", B, ("turn", 0), ("move", C, ("turn", 1), ("wall", 2))),
            ("move", B, ("move", C, ("turn", 2), ("wall", 1)), ("wall", 0)))

    def shown(self, turns, walls, thing):
        return is_mirror_tree(SHEET, ZERO, turns, walls, thing)

    def test_told(self):
        self.assertIs(is_mirror_tree(sheet=SHEET, point=ZERO, turns=PAIRS, walls=tuple(PAIRS), thing=self.TREE), True)
        # It looks at no cell: any lots will do.
        self.assertIs(self.shown([()], [], ("turn", 0)), True)
        self.assertIs(self.shown([], [()], ("wall", 0)), True)
        self.assertIs(self.shown([(A,)], [(A,)], ("move", A, ("turn", 0), ("wall", 0))), True)
        self.assertIs(self.shown([(A,)], [(A,)], ("move", B, ("move", A, ("turn", 0), ("wall", 0)), ("move", A, ("turn", 0), ("wall", 0)))), True)
        self.assertIs(self.shown([(A,), (A,)], [(B,), (A,)], ("move", A, ("turn", 1), ("wall", 1))), True)

    def test_no_trees(self):
        good = ("turn", 0), ("wall", 0)
        for thing in (("move", A, *good[::-1]), ("move", A, ("turn", 0), ("turn", 0)), ("move", A, ("wall", 0), ("wall", 0)),
                      ("turn", 0), ("wall", 0), ("turn", 1), ("move", A, ("turn", 1), ("wall", 0)), ("move", A, ("turn", -1), ("wall", 0)),
                      ("move", A, ("turn", False), ("wall", 0)), ("move", A, ("turn", None), ("wall", 0)), ("move", A, ("turn", 0), ["wall", 0]),
                      ("move", A, ("turn", 0, 0), ("wall", 0)), ("move", A, ("turn",), ("wall", 0)), ["move", A, *good], ("move", A, good[0]),
                      ("move", A, *good, good[1]), ("move", ("a", True), *good), ("move", ("a", 0), *good), ("move", None, *good),
                      ("move", ["a", 1], *good), ("move", ("d", 1), *good), ("ask", A, *good), ("move", A, ("move", A, *good), good[1]),
                      ("move", A, good[0], ("move", A, *good)), ("move", B, *good), *odd_values()):
            self.assertIs(self.shown([(A,)], [(A,)], thing), False, thing)
        self.assertIs(self.shown([], [], ("turn", 0)), False)

    def test_heart(self):
        """Of turns and walls there is a tree exactly if all least ones are there."""
        def has_tree(turns, walls, free, taken, left):
            if any(set(turn) <= taken for turn in turns) or any(set(wall) <= left for wall in walls):
                return True
            if not free:
                return False
            move, rest = free[0], free[1:]
            return has_tree(turns, walls, rest, taken | {move}, left) and has_tree(turns, walls, rest, taken, left | {move})

        told_ones = 0
        for seed in range(40):
            maker, sheet, point, wishes, told = told_case(seed)
            turns = [turn for turn in told.turns if turn in told.least_turns and not maker.chance(12) or maker.chance(3)]
            walls = [wall for wall in told.walls if wall in told.least_walls and not maker.chance(12) or maker.chance(3)]
            whole = set(told.least_turns) <= set(turns) and set(told.least_walls) <= set(walls)
            self.assertEqual(has_tree(turns, walls, told.moves, set(), set()), whole)
            tree = mirror_tree(sheet, point, wishes, MOST)
            if whole:
                at = {("turn", k): ("turn", turns.index(turn)) for k, turn in enumerate(told.least_turns)}
                at.update({("wall", k): ("wall", walls.index(wall)) for k, wall in enumerate(told.least_walls)})
                told_ones += 1
                self.assertIs(is_mirror_tree(sheet, point, turns, walls, renumbered(tree, at)), True)
        self.assertGreater(told_ones, 5)

    def test_errors(self):
        for thing in odd_values():
            with self.assertRaises(BadSheet):
                is_mirror_tree(thing, None, None, None, None)
            with self.assertRaises(BadPoint):
                is_mirror_tree(SHEET, thing, None, None, None)
            if not (isinstance(thing, (list, tuple)) and all(isinstance(lot, tuple) and not lot for lot in thing)):
                for turns, walls, word in ((thing, None, "turns"), ([], thing, "walls")):
                    with self.assertRaises(BadLots) as caught:
                        is_mirror_tree(SHEET, ZERO, turns, walls, None)
                    self.assertEqual(caught.exception.word, word)
        with self.assertRaises(Faulty):
            is_mirror_tree(FAULTY, None, None, None, None)
        for lot in bad_lots():
            for turns, walls, word in (([PAIRS[0], lot], [lot], "turns"), ([], [PAIRS[0], lot], "walls")):
                with self.assertRaises(BadLots) as caught:
                    is_mirror_tree(SHEET, ZERO, turns, walls, None)
                self.assertEqual(caught.exception.word, word)


def renumbered(tree, at):
    if tree[0] != "move":
        return at[tree]
    return ("move", tree[1], renumbered(tree[2], at), renumbered(tree[3], at))


if __name__ == "__main__":
    unittest.main()
